
import PyProof.Rows.All
import Wide.All
import OpenK.AllK
import Wide.FinOn
import Lean
import PyProof.EqAt
import PyProof.EqKinds
import PyProof.TupleCall
import PyProof.SetScanFacts
import PyProof.SetRoads
import PyProof.SetNew
import PyProof.TupleKey
import PyProof.DictFindH
import PyProof.Rows.SetFrom
import KE.KDictOf
import PyProof.AttrMissHeap
import PyProof.MeetsDictList
import PyProof.FString5
import KE.KUnpackStar
import PyProof.DictItems
import PyProof.SumWalkG
import KE.KLam
import KE.KMinKey
import KE.KDictList
import KE.KDictLaws
import KE.KDictSum
import PySem.Challenge.RW_fleethide_k30_plans_judged
set_option Elab.async false
set_option linter.all false
set_option maxRecDepth 100000
set_option maxHeartbeats 4000000
abbrev Sj:=PySem.Value->PySem.Shared->Prop
abbrev Sk:=List (PySem.Addr×PySem.Obj)
abbrev Sl:=Array (Option PySem.Value)
abbrev Sm:=PySem.Str->Option PySem.Value
abbrev Sn:=List (PySem.Str×PySem.Addr)
abbrev So:=List (Int×Int)
abbrev Sq:=List PySem.Comprehension
abbrev Sr:=List PySem.Value
abbrev Ss:=Option PySem.Addr
abbrev Su:=List PySem.Str
abbrev Sv:=List PySem.Addr
abbrev Sw:=List PySem.Expr
abbrev Sx:=List PySem.Stmt
abbrev Sy:=List Nat
abbrev Sz:=List Int
abbrev SA:=Int×Int
abbrev SB:=PySem.W.Frag
abbrev SC:=PySem.Value
abbrev SE:=PySem.Shared
abbrev SF:=PySem.Program
abbrev SG:=PySem.Around
abbrev SH:=PySem.Heap
abbrev SI:=PySem.World
abbrev SJ:=PySem.FuncData
abbrev SL:=PySem.Scope
abbrev SM:=PySem.Addr
abbrev SN:=PySem.Expr
abbrev SO:=PySem.Stmt
def a_:=@PySem.wpAny_bind
def b_:=@Option.bind_eq_some_iff
def c_:=@List.length_map
def d_:=@PySem.wpAny_pure
def e_:=@PySem.Heap.get?_push_of_some
def f_:=@List.getElem?_eq_getElem
def g_:=@List.getD_eq_getElem?_getD
def h_:=@Nat.le_refl
def i_:=@List.mem_cons_of_mem
def j_:=@List.mem_cons_self
def k_:=@if_pos
def l_:=@if_neg
def m_:=@List.getElem?_map
def n_:=@PySem.Heap.get?_push_size
def o_:=@List.getElem?_eq_some_iff
def p_:=@List.size_toArray
def q_:=@List.getElem?_set_ne
def r_:=@PySem.Heap.lt_size
def s_:=@List.mem_cons
def t_:=@List.length_append
def u_:=@List.mem_singleton
def v_:=@decide_eq_true
def w_:=@decide_eq_true_eq
def x_:=@List.mem_map
def y_:=@Nat.ne_of_lt
def z_:=@Bool.false_eq_true
def A_:=@Bool.and_eq_true
def B_:=@List.mem_append_right
def C_:=@Nat.le_trans
def D_:=@List.getElem?_set_self
def E_:=@Nat.lt_of_lt_of_le
def F_:=@Bool.false_ne_true
def G_:=@List.map_cons
def H_:=@List.length_cons
def I_:=@List.all_eq_true
def J_:=@List.getElem?_append_right
def K_:=@PySem.wpAny_holding
def L_:=@PySem.PassesOwn.never
def M_:=@Option.bind_some
def N_:=@List.getElem?_append_left
def Ot:=@decide_eq_false
def Ou:=@List.getElem?_eq_none
def Ov:=@List.mem_range
def Ow:=@Option.map_eq_some_iff
def Ox:=@List.mem_of_getElem?
def Oy:=@Nat.zero_add
def Oz:=@List.mem_append
def OA:=@List.map_map
def OB:=@List.map_append
def OC:=@Int.toNat_natCast
def OD:=@of_decide_eq_true
def OE:=@PySem.wpAny_call_entry
def OF:=@Array.length_toList
def OG:=@PySem.mem_of_lookup
def OH:=@PySem.wpAny_setState_of
def OI:=@PySem.wpAny_newObj_type
def OJ:=@PySem.sizeLine_eq
def OK:=@List.filterMap_cons
def OL:=@List.getElem_mem
def OM:=@Bool.eq_iff_iff
def ON:=@List.pairwise_cons
def OO:=@List.getElem?_replicate
def OP:=@PySem.wpAny_callSpecial?_slot
def OQ:=@List.pairwise_iff_getElem
def OR:=@List.not_mem_nil
def OS:=@if_false
def OT:=@PySem.Heap.SameBut.update
def OU:=@List.mem_filter
def OV:=@Int.emod_lt_of_pos
def OW:=@List.replicate_succ
def OX:=@PySem.wpAny_mono
def OY:=@List.length_filter_le
def OZ:=@congrArg
def O0:=@List.pairwise_append
def O1:=@Nat.pow_le_pow_right
def O2:=@PySem.W.kia_one
def O3:=@List.take_length
def O4:=@PySem.F.plain_min_loop
def O5:=@Array.getElem?_eq_getElem
def O6:=@List.pairwise_map
def O7:=@List.flatMap_cons
def O8:=@Int.emod_nonneg
def O9:=@List.append_nil
def O_:=@List.nil_append
def Pa:=@PySem.F.slot_dict_keyiterator_next
def Pb:=@PySem.wpAny_setField_rec
def Pc:=@List.lookup_cons
def Pd:=@PySem.wpAny_askSetting
def Pe:=@PyProof.Rows.callWith_type1
def Pf:=@PySem.wpAny_standAt
def Pg:=@PySem.wpAny_truthy_bool
def Ph:=@List.flatten_cons
def Pi:=@List.length_range
def Pj:=@PySem.wpAny_field
def Pk:=@List.length_take
def Pl:=@Nat.le_of_lt
def Pm:=@PySem.wpAny_typeNameOfWhole_keyiter
def Po:=@List.append_assoc
def Pp:=@Nat.lt_succ_of_lt
def Pq:=@Int.eq_ofNat_of_zero_le
def Pr:=@List.length_nil
def Pu:=@PySem.W.mg_none_of
def Pv:=@List.mem_map_of_mem
def Pw:=@Ne.symm
def Px:=@Array.getElem?_eq_none
def Py:=@Nat.zero_le
def Pz:=@List.cons_append
def PC:=@List.map_flatMap
def PF:=@List.mem_flatMap
def PH:=@PySem.wpAny_seqItems
def PJ:=@PySem.F.slot_tuple_iterator_next
def PK:=@List.take_append_drop
def PM:=@List.length_singleton
def PN:=@List.length_replicate
def PP:=@List.mem_take_iff_getElem
def PQ:=@List.getElem?_zip_eq_some
def PR:=@List.drop_eq_getElem_cons
def PU:=@PySem.wpAny_passesOwn
def PV:=@if_true
def PX:=@List.take_add_one
def PY:=@PySem.AutoSeq1.wpAny_loadPart'
def PZ:=@PySem.wpAny_typeNameOf_keyiter
def P1:=@PyProof.Rows.slot_tuple_getitem
def P2:=@List.getElem?_range
def P3:=@List.map_congr_left
def P4:=@Nat.le_of_not_lt
def P5:=@List.filter_cons
def P6:=@Nat.pow_succ
def P7:=@List.zip_cons_cons
def P8:=@PySem.wpAny_pyNext_list_item
def P9:=@PySem.wpAny_Call_Name_kw
def P_:=@or_false
def Qb:=@PySem.wpAny_specialOf
def Qc:=@List.dropLast_concat_getLast
def Qd:=@Nat.mul_assoc
def Qe:=@Prod.mk.injEq
def Qf:=@Nat.lt_irrefl
def Qg:=@PySem.Heap.get?_update_self
def Qh:=@PySem.F.slot_enumerate_next
def Qi:=@PySem.wpAny_pyIter_list
def Qj:=@Array.getElem?_eq_some_iff
def Qk:=@List.perm_ext_iff_of_nodup
def Ql:=@PySem.wpAny_tryCatch
def Qm:=@Nat.mod_eq_of_lt
def Qn:=@Nat.lt_trans
def Qo:=@PySem.wpAny_forIn_list
def Qp:=@List.mem_drop_iff_getElem
def Qq:=@PySem.Calls.call_function_entry
def Qr:=@Classical.byContradiction
def Qt:=@List.findSome?_cons
def Qu:=@List.length_pos_iff
def Qw:=@List.Pairwise.imp_of_mem
def Qx:=@PySem.F.args_tuple_add_2
def Qy:=@PySem.wpAny_getItem_list_slice
def Qz:=@PySem.wpAny_comprehension_free
def QA:=@PySem.wpAny_newList
def QB:=@PyProof.Rows.kind_sorted
def QC:=@PyProof.Rows.boot_sorted
def QD:=@PySem.wpAny_attempt
def QE:=@List.foldl_cons
def QF:=@PySem.codeAny_builtin
def QG:=@PySem.W.kat_nil
def QH:=@Nat.not_lt_zero
def QI:=@List.mem_filterMap
def QJ:=@PySem.wpAny_pyIter_tuple
def QK:=@PySem.Calls.spliced_cons
def QL:=@Nat.lt_of_le_of_lt
def QM:=@PySem.Obj.data_mapFields
def QN:=@PySem.F.entry_tuple_add
def QO:=@PySem.F.plainAttrs_list
def QP:=@Nat.le_succ
def QQ:=@Int.le_refl
def QR:=@List.pairwise_singleton
def QS:=@Nat.mul_comm
def QU:=@PySem.F.slot_tuple_add
def QV:=@PySem.slot_list_getitem
def QW:=@PySem.Calls.callWith_builtin
def QX:=@Int.le_trans
def QY:=@PyProof.Rows.boot_list
def QZ:=@PySem.W.kitx_dict
def Q0:=@List.take_of_length_le
def Q2:=@List.ext_getElem?
def Q3:=@PySem.wpAny_setField
def Q4:=@PySem.F.entry_min_loop
def Q5:=@Bool.eq_false_iff
def Q6:=@Nat.mul_le_mul
def Q7:=@List.mem_iff_getElem?
def Q8:=@PySem.wpAny_pyNext_list_end
def Q9:=@Array.getElem?_toList
def Q_:=@PySem.Heap.size_update
def Ra:=@PySem.wpAny_isInstance
def Rb:=@Nat.add_assoc
def Rc:=@Bool.not_true
def Re:=@Bool.true_and
def Rf:=@Nat.mul_add
def Rg:=@List.mem_append_left
def Rh:=@PySem.wpAny_of_eq
def Ri:=@PySem.wpAny_newFunctionEnv
def Rj:=@PySem.Around.under_plainId
def Rk:=@Nat.exists_eq_succ_of_ne_zero
def Rm:=@PySem.wpAny_execs_nil
def Rn:=@List.nodup_cons
def Ro:=@List.of_mem_zip
def Rp:=@PyProof.Rows.get?_update_seq
def Rq:=@PySem.F.slot_dict_setdefault
def Rt:=@Nat.testBit_and
def Ru:=@List.map_eq_nil_iff
def Rv:=@Function.comp_apply
def Rw:=@Nat.ne_of_gt
def Rx:=@Array.getD_eq_getD_getElem?
def Ry:=@Int.le_of_lt
def Rz:=@PySem.F.slot_int_bit_length
def RA:=@Nat.mod_lt
def RB:=@List.filterMap_map
def RC:=@Array.forIn_toList
def RD:=@List.nodup_nil
def RE:=@PySem.Heap.size_push
def RF:=@PySem.tupleKind_room_in1
def RG:=@PySem.wpAny_fieldsOf
def RH:=@Array.perm_iff_toList_perm
def RI:=@Option.toList_some
def RJ:=@PyProof.Rows.assign_Tuple
def RK:=@Nat.mul_left_comm
def RL:=@Nat.lt_trichotomy
def RM:=@PySem.Calls.spliced_nil
def RN:=@List.reverse_cons
def RO:=@PySem.wpAny_letGo
def RP:=@PySem.wpAny_pyIter_enum
def RQ:=@PySem.wpAny_dictEntries
def RS:=@PySem.wpAny_pyIter_slot
def RT:=@Function.comp_def
def RU:=@Nat.le_of_succ_le
def RV:=@List.map_take
def RW:=@PySem.plainId_quiet
def RX:=@List.length_drop
def RY:=@Nat.succ_ne_self
def RZ:=@List.flatMap_map
def R0:=@List.any_eq_true
def R6:=@List.mem_flatten
def R7:=@List.map_nil
def R8:=@PySem.call_meets
def R9:=@beq_iff_eq
def R_:=@Nat.mul_succ
def Sa:=@Nat.min_self
def Sb:=@List.all_map
def Sd:=@List.length_set
def Se:=@Bool.or_eq_true
def Sf:=@List.length_zip
def Sg:=@Bool.false_and
def Si:=@exists_eq_left
theorem cN{G:Prop}(h:∀Q:Prop,(G->Q)->Q):G:=h G id
namespace St
open PySem
def s5:Nat->Nat
 | 0=>0
 | n+1=>5*s5 n+1
def g5:Nat->Nat->Nat
 | 0,x=>x
 | n+1,x=>5*g5 n x+1
theorem Eh(x:Nat):∀n,g5 n x=x+s5 n*(4*x+1)
 | 0=>by simp[g5,s5]
 | n+1=>by
  unfold g5 s5;rw[Eh x n,Nat.add_mul,Rf,Qd]
  lia
theorem yG(x m:Nat):∀n,g5 (m+n) x=g5 n (g5 m x)
 | 0=>rfl
 | n+1=>by rw[<- Rb];show 5*g5 (m+n) x+1=_;rw[yG x m n];rfl
theorem AU(m:Nat):∀n,s5 (m+n)=s5 m+s5 n+4*(s5 m*s5 n)
 | 0=>by simp[s5]
 | n+1=>by
  rw[<- Rb];show 5*s5 (m+n)+1=s5 m+(5*s5 n+1)+4*(s5 m*(5*s5 n+1));rw[AU m n,Rf (s5 m),RK (s5 m) 5]
  lia
theorem AO:∀k,∃a,s5 (2 ^ k)=2 ^ k*(2*a+1)
 | 0=>⟨0,rfl⟩
 | k+1=>by
  obtain⟨a,h⟩:=AO k;rw[P6,Nat.mul_two,AU];generalize s5 (2 ^ k)=s at h;generalize 2 ^ k=N at h;refine⟨a+s*(2*a+1),?_⟩;have e:(N+N)*(2*(a+s*(2*a+1))+1)=2*(N*(2*a+1))+4*(s*(N*(2*a+1))):=by
   rw[<- Nat.two_mul,Qd 2 N];rw[show N*(2*(a+s*(2*a+1))+1)=N*(2*a+1)+N*(2*(s*(2*a+1))) by rw[<- Rf];congr 1;lia];rw[Rf,show N*(2*(s*(2*a+1)))=2*(s*(N*(2*a+1))) by
    rw[RK N 2,RK N s]]
   lia
  rw[e,<- h];lia
theorem B4(k x:Nat):g5 (2 ^ k) x%2 ^ (k+1)=(x+2 ^ k)%2 ^ (k+1):=by
 obtain⟨a,h⟩:=AO k;rw[Eh,h,P6];generalize 2 ^ k=N;have:x+N*(2*a+1)*(4*x+1)=(x+N)+(N*2)*(a*(4*x+1)+2*x):=by
  rw[Qd N,show(2*a+1)*(4*x+1)=2*(a*(4*x+1)+2*x)+1 by rw[Nat.add_mul,Qd];lia];rw[Rf,Qd N 2];lia
 rw[this,Nat.add_mul_mod_self_left]
theorem full:∀(k x y:Nat),∃n,n<2 ^ k/\g5 n x%2 ^ k=y%2 ^ k
 | 0,x,y=>⟨0,by decide,by simp[Nat.mod_one]⟩
 | k+1,x,y=>by
  obtain⟨n,h1,h2⟩:=full k x y;have hp:2 ^ (k+1)=2*2 ^ k:=by rw[P6,QS]
  by_cases h:g5 n x%2 ^ (k+1)=y%2 ^ (k+1)
  .exact⟨n,by lia,h⟩
  .refine⟨n+2 ^ k,by lia,?_⟩;rw[yG,B4,hp]at *;generalize g5 n x=z at h h2;have hN:0<2 ^ k:=Nat.two_pow_pos k;generalize 2 ^ k=N at *;have e1:=Nat.mod_mod_of_dvd z (⟨2,by rw[QS]⟩:N ∣ 2*N);have e2:=Nat.mod_mod_of_dvd y (⟨2,by rw[QS]⟩:N ∣ 2*N);have b1:=RA z (show 0<2*N by lia);have b2:=RA y (show 0<2*N by lia);rw[Nat.add_mod,Qm (show N<2*N by lia)];generalize z%(2*N)=u at *;generalize y%(2*N)=v at *;have d1:=Nat.div_add_mod u N;have d2:=Nat.div_add_mod v N;have q1:u/N<2:=Nat.div_lt_of_lt_mul (by lia);have q2:v/N<2:=Nat.div_lt_of_lt_mul (by lia);have r1:=RA u hN;have hr:u%N=v%N:=by lia
   generalize u/N=c at *;generalize v/N=d at *;rw[hr]at d1 r1;generalize v%N=w at *;have cc:c=0\/c=1:=by clear d1 d2;lia
   have dd:d=0\/d=1:=by clear d1 d2;lia
   rcases cc with rfl | rfl<;>rcases dd with rfl | rfl
   .exact absurd (by lia) h
   .rw[Qm (by lia)];lia
   .rw[show u+N=2*N+v by lia,Nat.add_mod_left,Qm (by lia)]
   .exact absurd (by lia) h
theorem gap:∀(l:Sy)(a:Nat),l.Pairwise (· < ·)->(∀x∈l,a<=x)->∃x,a<=x/\x<=a+l.length/\x∉l
 | [],a,_,_=>⟨a,h_ _,by simp,by simp⟩
 | b::r,a,h,hl=>by
  obtain⟨h1,h2⟩:=ON.mp h;have hb:=hl b j_
  by_cases e:b=a
  .subst e;obtain⟨x,x1,x2,x3⟩:=gap r (b+1) h2 λx hx=>h1 x hx;refine⟨x,by lia,by simp;lia,λhx=>?_⟩;rcases s_.mp hx with z | z
   .lia
   .exact x3 z
  .refine⟨a,h_ _,by simp,λhx=>?_⟩;rcases s_.mp hx with z | z
   .lia
   .have:=h1 a z;lia
theorem mB(xs:Array Nat)(j:Nat)(up:xs.toList.Pairwise (· < ·)):∀(fuel lo hi:Nat),lo<=hi->hi<=xs.size->hi-lo<=fuel->(∀x∈xs.toList.take lo,x<j)->(∀x∈xs.toList.drop hi,j<=x)->
  ∃r,SetTable.below.go xs j fuel lo hi=r/\r<=xs.size/\(∀x∈xs.toList.take r,x<j)/\∀x∈xs.toList.drop r,j<=x
 | 0,lo,hi,h1,h2,h3,h4,h5=>⟨lo,rfl,by lia,h4,by rw[show lo=hi by lia];exact h5⟩
 | fuel+1,lo,hi,h1,h2,h3,h4,h5=>by
  unfold SetTable.below.go
  by_cases hl:lo<hi
  .rw[k_ hl];dsimp only;have hm:(lo+hi)/2<xs.size:=by lia
   have hg:xs.getD ((lo+hi)/2) j=xs.toList[(lo+hi)/2]'(by simpa using hm):=by simp[Array.getD,hm]
   rw[hg];generalize hmm:(lo+hi)/2=mid at *;have HE:mid<xs.toList.length:=by simpa using hm
   by_cases hc:xs.toList[mid]<j
   .rw[k_ hc];refine mB xs j up fuel (mid+1) hi (by lia) h2 (by lia) (λx hx=>?_) h5;obtain⟨i,hi1,rfl⟩:=PP.mp hx
    by_cases e:i=mid
    .subst e;exact hc
    .exact Qn (OQ.mp up i mid (by lia) HE (by lia)) hc
   .rw[l_ hc];refine mB xs j up fuel lo mid (by lia) (by lia) (by lia) h4 (λx hx=>?_);obtain⟨i,hi1,rfl⟩:=Qp.mp hx
    by_cases e:i=0
    .subst e;simpa using hc
    .have:=OQ.mp up mid (mid+i) HE (by lia) (by lia)
     lia
  .rw[l_ hl];exact⟨lo,rfl,by lia,h4,by rw[show lo=hi by lia];exact h5⟩
theorem mM(xs:Array Nat)(j:Nat)(up:xs.toList.Pairwise (· < ·)):SetTable.below xs j<=xs.size/\(∀x∈xs.toList.take (SetTable.below xs j),x<j)/\∀x∈xs.toList.drop (SetTable.below xs j),j<=x:=by
 obtain⟨r,h1,h2⟩:=mB xs j up xs.size 0 xs.size (Py _) (h_ _) (h_ _) (by simp) (λx hx=>by rw[<- OF,List.drop_length]at hx;cases hx);unfold SetTable.below;rw[h1];exact h2
theorem below_at(up:xs.toList.Pairwise (· < ·))(h:xs[i]?=some j):SetTable.below xs j=i:=by
 obtain⟨h1,h2,h3⟩:=mM xs j up;generalize SetTable.below xs j=r at *;have h':xs.toList[i]?=some j:=by simpa using h
 obtain⟨hi,e⟩:=o_.mp h';rcases RL r i with hlt | rfl | hgt
 .have hr:r<xs.toList.length:=by lia
  have a1:=h3 xs.toList[r] (Qp.mpr ⟨0,by simpa using hr,by simp⟩);have a2:=OQ.mp up r i hr hi hlt
  lia
 .rfl
 .have:=h2 xs.toList[i] (PP.mpr ⟨i,by lia,rfl⟩)
  lia
theorem u6(j:Nat):SetTable.has #[] j=false:=by
 unfold SetTable.has;simp
theorem j9{t:SetTable}{i j:Nat}(up:t.place.toList.Pairwise (· < ·))(h:t.place[i]?=some j):t.slot j=.live i:=by
 unfold SetTable.slot;rw[below_at up h];dsimp only;rw[h];simp
theorem uf{t:SetTable}{j:Nat}(hd:t.dummies=#[])(h:j∉t.place.toList):t.slot j=.empty:=by
 unfold SetTable.slot;dsimp only;rw[l_,hd,u6]
 .rfl
 .intro e;have e2:t.place[SetTable.below t.place j]?=some j:=by simpa using e
  exact h (by have:=Array.mem_of_getElem? e2;simpa using this)
def sX(mask:Nat)(p:SetTable.Probe):SetTable.Probe:=
 if p.more>0 then {p with j:=p.j+1,more:=p.more-1}else
 {p with j:=(SetTable.leap mask p.i p.perturb).1,more:=SetTable.runEnd mask (SetTable.leap mask p.i p.perturb).1-(SetTable.leap mask p.i p.perturb).1,i:=(SetTable.leap mask p.i p.perturb).1,perturb:=(SetTable.leap mask p.i p.perturb).2}
theorem FQ(t:SetTable)(p:SetTable.Probe):t.advance p=sX t.mask p:=rfl
def it(mask:Nat)(p:SetTable.Probe):Nat->SetTable.Probe
 | 0=>p
 | m+1=>sX mask (it mask p m)
theorem jx(mask:Nat)(p:SetTable.Probe):∀m,it mask p (m+1)=it mask (sX mask p) m
 | 0=>rfl
 | m+1=>by show sX mask (it mask p (m+1))=sX mask (it mask (sX mask p) m);rw[jx mask p m]
theorem i5(mask:Nat)(p:SetTable.Probe)(a:Nat):∀b,it mask p (a+b)=it mask (it mask p a) b
 | 0=>rfl
 | b+1=>by rw[<- Rb];show sX mask (it mask p (a+b))=_;rw[i5 mask p a b];rfl
def st(mask i aU:Nat):SetTable.Probe:={j:=i,more:=SetTable.runEnd mask i-i,i:=i,perturb:=aU,dummy:=none}
theorem rA(t:SetTable)(h:Int):t.probeStart h=st t.mask (SetTable.bits h%(t.mask+1)) (SetTable.bits h):=rfl
theorem qh(mask i:Nat)(h:i<=mask):SetTable.runEnd mask i-i<=9/\i<=SetTable.runEnd mask i/\SetTable.runEnd mask i<=mask:=by
 unfold SetTable.runEnd;split<;>lia
theorem ml(mask i aU:Nat):∀r,r<=SetTable.runEnd mask i-i->it mask (st mask i aU) r={j:=i+r,more:=SetTable.runEnd mask i-i-r,i:=i,perturb:=aU,dummy:=none}
 | 0,_=>rfl
 | r+1,h=>by
  show sX mask (it mask (st mask i aU) r)=_;rw[ml mask i aU r (by lia)];unfold sX;rw[k_ (by dsimp only;lia)];dsimp only;congr 1
def lp(mask:Nat):Nat->Nat×Nat->Nat×Nat
 | 0,q=>q
 | n+1,q=>lp mask n (SetTable.leap mask q.1 q.2)
theorem o5(mask i aU:Nat)(h:i<=mask):it mask (st mask i aU) (SetTable.runEnd mask i-i+1)=st mask (SetTable.leap mask i aU).1 (SetTable.leap mask i aU).2:=by
 show sX mask (it mask (st mask i aU) (SetTable.runEnd mask i-i))=_;rw[ml mask i aU _ (h_ _)];unfold sX;rw[l_ (by dsimp only;lia)]
 rfl
theorem k7(mask i aU:Nat):(SetTable.leap mask i aU).1<=mask:=by
 unfold SetTable.leap;have:=RA (i*5+1+aU/32) (show 0<mask+1 by lia);dsimp only;lia
theorem Eb(mask:Nat):∀(n i aU:Nat),i<=mask->∃m,m<=10*n/\it mask (st mask i aU) m=st mask (lp mask n (i,aU)).1 (lp mask n (i,aU)).2
 | 0,i,aU,_=>⟨0,h_ _,rfl⟩
 | n+1,i,aU,h=>by
  obtain⟨m,h1,h2⟩:=Eb mask n _ (SetTable.leap mask i aU).2 (k7 mask i aU);have hr:=(qh mask i h).1;refine⟨SetTable.runEnd mask i-i+1+m,by lia,?_⟩;rw[i5,o5 mask i aU h,h2]
  rfl
theorem uV(mask:Nat):∀(n i aU:Nat),(lp mask n (i,aU)).2=aU/32 ^ n
 | 0,i,aU=>by simp[lp]
 | n+1,i,aU=>by
  show(lp mask n ((SetTable.leap mask i aU).1,aU/32)).2=_;rw[uV mask n,Nat.div_div_eq_div_mul,P6,QS]
theorem uM(mask a:Nat):∀(b:Nat)(q:Nat×Nat),lp mask (b+a) q=lp mask a (lp mask b q)
 | 0,q=>by rw[Oy];rfl
 | b+1,q=>by rw[show b+1+a=(b+a)+1 by lia];show lp mask (b+a) _=lp mask a (lp mask b _);rw[uM mask a b]
theorem vG(mask:Nat):∀(n i:Nat),i<=mask->lp mask n (i,0)=(g5 n i%(mask+1),0)
 | 0,i,h=>by show(i,0)=(i%(mask+1),0);rw[Qm (by lia)]
 | n+1,i,h=>by
  have e:lp mask (n+1) (i,0)=SetTable.leap mask (lp mask n (i,0)).1 (lp mask n (i,0)).2:=by rw[uM mask 1 n];rfl
  rw[e,vG mask n i h];show((g5 n i%(mask+1)*5+1+0/32)%(mask+1),0/32)=((5*g5 n i+1)%(mask+1),0);have:(g5 n i%(mask+1)*5+1+0/32)%(mask+1)=(5*g5 n i+1)%(mask+1):=by
   rw[Nat.zero_div,Nat.add_zero,Nat.add_mod,Nat.mod_mul_mod,<- Nat.add_mod,QS]
  rw[this]
theorem Es(mask:Nat):∀(n i aU:Nat),i<=mask->(lp mask n (i,aU)).1<=mask
 | 0,i,aU,h=>h
 | n+1,i,aU,h=>Es mask n _ _ (k7 mask i aU)
theorem uW(h:Int):SetTable.bits h<2 ^ 64:=by
 unfold SetTable.bits;have a:=O8 h (show(2 ^ 64:Int)≠0 by decide);have b:=OV h (show(0:Int)<2 ^ 64 by decide);have c:((2:Int) ^ 64)=((2 ^ 64:Nat):Int):=by decide
 lia
theorem meets(k:Nat)(mask:Nat)(hk:mask+1=2 ^ k)(i aU x:Nat)(hi:i<=mask)(hp:aU<2 ^ 64)(hx:x<=mask):∃n,n<=13+mask/\(lp mask n (i,aU)).1=x:=by
 have z:lp mask 13 (i,aU)=((lp mask 13 (i,aU)).1,0):=by
  have:=uV mask 13 i aU;rw[Nat.div_eq_of_lt (Qn hp (by decide))]at this;exact Prod.ext rfl this
 obtain⟨n,h1,h2⟩:=full k (lp mask 13 (i,aU)).1 x;refine⟨13+n,by lia,?_⟩;rw[uM mask n 13,z,vG mask n _ (Es mask 13 i aU hi)];show g5 n _%(mask+1)=x;rw[hk,h2,<- hk,Qm (by lia)]
theorem jt(mask:Nat)(p:SetTable.Probe)(h:p.dummy=none):∀m,(it mask p m).dummy=none
 | 0=>h
 | m+1=>by
  show(sX mask (it mask p m)).dummy=none;unfold sX
  split
  .exact jt mask p h m
  .exact jt mask p h m
theorem D6(mask i aU:Nat)(hi:i<=mask):∀m,(it mask (st mask i aU) m).i<=mask/\(it mask (st mask i aU) m).j+(it mask (st mask i aU) m).more<=mask
 | 0=>⟨hi,by have:=qh mask i hi;show i+(SetTable.runEnd mask i-i)<=mask;lia⟩
 | m+1=>by
  obtain⟨h1,h2⟩:=D6 mask i aU hi m;have e:it mask (st mask i aU) (m+1)=sX mask (it mask (st mask i aU) m):=rfl;rw[e];generalize it mask (st mask i aU) m=p at *;unfold sX
  split
  .exact⟨h1,by dsimp only;lia⟩
  .have hl:=k7 mask p.i p.perturb;have hr:=qh mask _ hl;exact⟨hl,by dsimp only;lia⟩
structure Ok(t:SetTable)(hs:List Int):Prop where
 dum:t.dummies=#[]
 pw:∃k,t.mask+1=2 ^ k
 up:t.place.toList.Pairwise (· < ·)
 le:∀x∈t.place.toList,x<=t.mask
 len:t.place.size=hs.length
 lt:t.place.size<=t.mask
 ch:∀q∈t.place.toList.zip hs,∃m,(it t.mask (t.probeStart q.2) m).j=q.1/\∀m'<m,(it t.mask (t.probeStart q.2) m').j∈t.place.toList
theorem mi(mask:Nat)(h:Int):SetTable.bits h%(mask+1)<=mask:=by
 have:=RA (SetTable.bits h) (show 0<mask+1 by lia);lia
theorem oE{l:Sy}{mask:Nat}(hk:∃k,mask+1=2 ^ k)(up:l.Pairwise (· < ·))(hl:l.length<=mask)(i aU:Nat)(hi:i<=mask)(hp:aU<2 ^ 64) :
  ∃n,n<=13+mask/\(lp mask n (i,aU)).1∉l:=by
 obtain⟨k,hk⟩:=hk;obtain⟨x,_,x2,x3⟩:=gap l 0 up λ_ _=>Py _;obtain⟨n,h1,h2⟩:=meets k mask hk i aU x hi hp (by lia);exact⟨n,h1,by rw[h2];exact x3⟩
theorem Ok.soon{t:SetTable}{hs:Sz}(o:Ok t hs)(h:Int):∃m,m<10*SetTable.turns t.mask/\(it t.mask (t.probeStart h) m).j∉t.place.toList:=by
 obtain⟨n,h1,h2⟩:=oE o.pw o.up (by simpa using o.lt) _ _ (mi t.mask h) (uW h);obtain⟨m,h3,h4⟩:=Eb t.mask n _ (SetTable.bits h) (mi t.mask h);refine⟨m,by unfold SetTable.turns;lia,?_⟩;rw[rA,h4];exact h2
theorem rL(hd:t.dummies=#[])(up:t.place.toList.Pairwise (· < ·))(ha:Nat->Int)(h:Int):∀(fuel:Nat)(p:SetTable.Probe),p.dummy=none->(∃m,m<fuel/\(it t.mask p m).j∉t.place.toList)->
  ∃met m,SetTable.probe.go t ha h fuel p=some met/\(∀m'<m,∃i,t.place[i]?=some (it t.mask p m').j/\ha i≠h)/\
   ((met=.empty (it t.mask p m).j none/\(it t.mask p m).j∉t.place.toList)\/∃i,t.place[i]?=some (it t.mask p m).j/\ha i=h/\met=.candidate (it t.mask p m).j i (it t.mask p (m+1)))
 | 0,p,_,⟨m,h1,_⟩=>by lia
 | fuel+1,p,hp,⟨m,h1,h2⟩=>by
  unfold SetTable.probe.go
  by_cases hm:p.j∈t.place.toList
  .obtain⟨i,hi⟩:=Q7.mp hm;have hi':t.place[i]?=some p.j:=by simpa using hi
   rw[j9 up hi'];dsimp only
   by_cases hh:ha i=h
   .rw[k_ (by simpa using hh)];exact⟨_,0,rfl,λm' z=>by lia,.inr ⟨i,hi',hh,rfl⟩⟩
   .rw[l_ (by simpa using hh),FQ];have Mf:m≠0:=λz=>h2 (by rw[z];exact hm);obtain⟨m1,rfl⟩:∃m1,m=m1+1:=⟨m-1,by lia⟩;obtain⟨met,m2,g1,g2,g3⟩:=rL hd up ha h fuel (sX t.mask p) (by have:=jt t.mask p hp 1;exact this) ⟨m1,by lia,by rw[<- jx];exact h2⟩;refine⟨met,m2+1,g1,λm' hm'=>?_,?_⟩
    .cases m' with
     | zero=>exact⟨i,hi',hh⟩
     | succ m'=>rw[jx];exact g2 m' (by lia)
    .rw[jx,jx];exact g3
  .rw[uf hd hm];dsimp only;exact⟨_,0,rfl,λm' z=>by lia,.inl ⟨by rw[hp];rfl,hm⟩⟩
theorem vM:∀(p:Nat)(xs:List α)(ys:List β)(x:α)(y:β),xs.length=ys.length->p<=xs.length->(xs.take p++x::xs.drop p).zip (ys.take p++y::ys.drop p)=(xs.zip ys).take p++(x,y)::(xs.zip ys).drop p
 | 0,xs,ys,x,y,_,_=>rfl
 | p+1,[],_,_,_,_,h=>by simp at h
 | p+1,_::_,[],_,_,h,_=>by simp at h
 | p+1,a::xs,b::ys,x,y,h,hp=>by
  simp only[List.take_succ_cons,List.drop_succ_cons,Pz,P7];rw[vM p xs ys x y (by simpa using h) (by simpa using hp)]
theorem qp(p:Nat)(l:List α)(x z:α):z∈l.take p++x::l.drop p↔z=x\/z∈l:=by
 rw[Oz,s_];constructor
 .rintro(h | h | h)
  .exact .inr (List.mem_of_mem_take h)
  .exact .inl h
  .exact .inr (List.mem_of_mem_drop h)
 .rintro(h | h)
  .exact .inr (.inl h)
  .rw[<- PK p l]at h;rcases Oz.mp h with h | h
   .exact .inl h
   .exact .inr (.inr h)
theorem pV(p:Nat)(l:List α)(x:α):(l.take p++x::l.drop p).length=l.length+1:=by
 rw[t_,H_,<- Rb,<- t_,PK]
theorem Ok.put(o:Ok t hs)(h:Int)(m:Nat)(hj:(it t.mask (t.probeStart h) m).j∉t.place.toList)(hb:∀m'<m,(it t.mask (t.probeStart h) m').j∈t.place.toList)(hlt:t.place.size+1<=t.mask)(pl:Bool) :
  ∃p,(t.put (it t.mask (t.probeStart h) m).j).2=p/\p<=hs.length/\Ok {(t.put (it t.mask (t.probeStart h) m).j).1 with plain:=pl} (hs.take p++h::hs.drop p):=by
 have hle:=(D6 t.mask _ (SetTable.bits h) (mi t.mask h) m).2;rw[<- rA]at hle;generalize hjj:(it t.mask (t.probeStart h) m).j=j at *;obtain⟨b1,b2,b3⟩:=mM t.place j o.up;refine⟨_,rfl,by rw[<- o.len];exact b1,?_⟩;show Ok {t with place:=SetTable.insertAt t.place (SetTable.below t.place j) j,dummies:=if SetTable.has t.dummies j then SetTable.eraseAt t.dummies (SetTable.below t.dummies j)else t.dummies,plain:=pl} (hs.take (SetTable.below t.place j)++h::hs.drop (SetTable.below t.place j));have hd:(if SetTable.has t.dummies j then SetTable.eraseAt t.dummies (SetTable.below t.dummies j)else t.dummies)=#[]:=by
  rw[o.dum,u6];rfl
 rw[hd];have hl:t.place.toList.length=hs.length:=by rw[<- o.len];simp
 have e1:=SetTable.toList_insertAt t.place (SetTable.below t.place j) j;have hsz:(SetTable.insertAt t.place (SetTable.below t.place j) j).size=t.place.size+1:=by
  rw[<- OF,e1,pV];simp
 refine⟨rfl,o.pw,?_,λx hx=>?_,?_,?_,λq hq=>?_⟩
 .show List.Pairwise _ (SetTable.insertAt t.place _ j).toList;rw[e1];have hup:=o.up;rw[<- PK (SetTable.below t.place j) t.place.toList]at hup;obtain⟨u1,u2,u3⟩:=O0.mp hup;refine O0.mpr ⟨u1,ON.mpr ⟨λx hx=>?_,u2⟩,λx hx y hy=>?_⟩
  .have:=b3 x hx;have:x≠j:=λz=>hj (z▸List.mem_of_mem_drop hx)
   lia
  .rcases s_.mp hy with rfl | hy
   .exact b2 x hx
   .exact u3 x hx y hy
 .have m8:x∈(SetTable.insertAt t.place (SetTable.below t.place j) j).toList:=hx;rw[e1,qp]at m8;rcases m8 with rfl | m8
  .show x<=t.mask;lia
  .exact o.le x m8
 .show(SetTable.insertAt t.place _ j).size=_;rw[hsz,pV,o.len]
 .show(SetTable.insertAt t.place _ j).size<=_;rw[hsz];exact hlt
 .have Bl:q∈(SetTable.insertAt t.place (SetTable.below t.place j) j).toList.zip (hs.take (SetTable.below t.place j)++h::hs.drop (SetTable.below t.place j)):=hq;have sub:∀x,x∈t.place.toList->x∈(SetTable.insertAt t.place (SetTable.below t.place j) j).toList:=λx hx=>by rw[e1,qp];exact .inr hx
  rw[e1,vM _ _ _ _ _ hl (by simpa using b1),qp]at Bl;rcases Bl with rfl | Bl
  .exact⟨m,hjj,λm' hm'=>sub _ (hb m' hm')⟩
  .obtain⟨m2,g1,g2⟩:=o.ch q Bl;exact⟨m2,g1,λm' hm'=>sub _ (g2 m' hm')⟩
def taken(ow:Array (Option Nat))(j:Nat):Prop:=∃k,ow[j]?=some (some k)
theorem ue(n:Nat)(f:Nat->Bool):(∃k,k<n/\(List.range n).find? f=some k/\f k=true/\∀k'<k,f k'=false)\/((List.range n).find? f=none/\∀k<n,f k=false):=by
 cases e:(List.range n).find? f with
 | none=>
  right;refine⟨rfl,λk hk=>?_⟩;have:=List.find?_eq_none.mp e k (Ov.mpr hk);simpa using this
 | some k=>
  left;obtain⟨h1,h2⟩:=List.find?_eq_some_iff_append.mp e;obtain⟨as,bs,h3,h4⟩:=h2;have hk:k<n:=by
   have:k∈List.range n:=by rw[h3];simp
   exact Ov.mp this
  refine⟨k,hk,rfl,h1,λk' hk'=>?_⟩;have hlen:as.length=k:=by
   have e1:(List.range n)[as.length]?=some k:=by rw[h3];simp
   rw[P2 (by have:=OZ List.length h3;simp at this;lia)]at e1;exact Option.some.inj e1
  have:k'∈as:=by
   have e1:(List.range n)[k']?=some k':=P2 (by lia);rw[h3,N_ (by lia)]at e1;exact Ox e1
  simpa using h4 k' this
theorem lb(hsz:ow.size=mask+1):∀(fuel i aU:Nat),i<=mask->(∃n,n<fuel/\¬taken ow (lp mask n (i,aU)).1)->
  ∃m,SetTable.layClean.free mask ow fuel i aU=some (it mask (st mask i aU) m).j/\¬taken ow (it mask (st mask i aU) m).j/\(it mask (st mask i aU) m).j<=mask/\∀m'<m,taken ow (it mask (st mask i aU) m').j
 | 0,i,aU,_,⟨n,h,_⟩=>by lia
 | fuel+1,i,aU,hi,⟨n,hn,ht⟩=>by
  obtain⟨r1,r2,r3⟩:=qh mask i hi;unfold SetTable.layClean.free;have gd:∀j,j<=mask->((ow.getD j (some 0)).isNone=true↔¬taken ow j):=λj hj=>by
   have hl:j<ow.size:=by lia
   unfold taken;rw[O5 hl];simp only[Array.getD,hl,dif_pos];cases h:ow[j]with
   | none=>simp[h]
   | some k=>simp[h]
  rcases ue (SetTable.runEnd mask i+1-i) (λk=>(ow.getD (i+k) (some 0)).isNone)with ⟨k,k1,k2,k3,k4⟩ | ⟨k2,k4⟩
  .rw[k2];dsimp only;have e:(it mask (st mask i aU) k).j=i+k:=by rw[ml mask i aU k (by lia)]
   refine⟨k,by rw[e],by rw[e];exact(gd _ (by lia)).mp k3,by rw[e];lia,λm' hm'=>?_⟩;rw[ml mask i aU m' (by lia)];have h1:=k4 m' hm';have h2:=gd (i+m') (by lia)
   by_cases hh:taken ow (i+m')
   .exact hh
   .rw[h2.mpr hh]at h1;cases h1
  .rw[k2];dsimp only;have n0:n≠0:=λz=>by
    subst z;have h1:=k4 0 (by lia);rw[Nat.add_zero,(gd i hi).mpr ht]at h1;cases h1
   obtain⟨n',rfl⟩:∃n',n=n'+1:=⟨n-1,by lia⟩;obtain⟨m,g1,g2,g3,g4⟩:=lb hsz fuel _ (SetTable.leap mask i aU).2 (k7 mask i aU) ⟨n',by lia,ht⟩;rw[<- o5 mask i aU hi,<- i5]at g1 g2 g3;refine⟨_,g1,g2,g3,λm' hm'=>?_⟩
   by_cases hh:m'<SetTable.runEnd mask i-i+1
   .rw[ml mask i aU m' (by lia)];have h1:=k4 m' (by lia);have h2:=gd (i+m') (by lia)
    by_cases hk:taken ow (i+m')
    .exact hk
    .rw[h2.mpr hk]at h1;cases h1
   .have:=g4 (m'-(SetTable.runEnd mask i-i+1)) (by lia);rw[<- o5 mask i aU hi,<- i5]at this;rw[show SetTable.runEnd mask i-i+1+(m'-(SetTable.runEnd mask i-i+1))=m' by lia]at this;exact this
structure Lay(mask:Nat)(done:List Int)(ow:Array (Option Nat)):Prop where
 sz:ow.size=mask+1
 bd:∀(j k:Nat),ow[j]?=some (some k)->k<done.length
 on:∀k<done.length,∃j:Nat,ow[j]?=some (some k)
 inj:∀(j j' k:Nat),ow[j]?=some (some k)->ow[j']?=some (some k)->j=j'
 ch:∀(j k:Nat)(h:Int),ow[j]?=some (some k)->done[k]?=some h->∃m,(it mask (st mask (SetTable.bits h%(mask+1)) (SetTable.bits h)) m).j=j/\∀m'<m,taken ow (it mask (st mask (SetTable.bits h%(mask+1)) (SetTable.bits h)) m').j
def lv(mask:Nat)(ow:Array (Option Nat)):List (Nat×Nat):=(List.range (mask+1)).filterMap λj=>(ow.getD j none).map (j,·)
theorem getD_some{ow:Array (Option Nat)}{j k:Nat}:ow.getD j none=some k↔ow[j]?=some (some k):=by
 by_cases h:j<ow.size
 .simp[Array.getD,h]
 .simp[Array.getD,h]
theorem gO{mask:Nat}{ow:Array (Option Nat)}(hsz:ow.size=mask+1){q:Nat×Nat}:q∈lv mask ow↔ow[q.1]?=some (some q.2):=by
 unfold lv;rw[QI];constructor
 .rintro⟨j,_,h⟩;obtain⟨k,h1,h2⟩:=Ow.mp h;subst h2;exact getD_some.mp h1
 .intro h;refine⟨q.1,Ov.mpr ?_,Ow.mpr ⟨q.2,getD_some.mpr h,rfl⟩⟩;have:=(Qj.mp h).1
  lia
theorem zk(mask:Nat)(ow:Array (Option Nat)):(lv mask ow).Pairwise λa b=>a.1<b.1:=by
 unfold lv;rw[List.pairwise_filterMap];refine Qw (R:=λ(x y:Nat)=>x<y) (λ{x y} _ _ hxy a ha b hb=>?_) List.pairwise_lt_range;obtain⟨_,_,rfl⟩:=Ow.mp ha;obtain⟨_,_,rfl⟩:=Ow.mp hb;exact hxy
theorem Lay.nodup(L:Lay mask done ow):((lv mask ow).map (·.2)).Nodup:=by
 unfold List.Nodup;rw[O6];refine Qw (λ{a b} ha hb KL e=>?_) (zk mask ow);have h1:=(gO L.sz).mp ha;have h2:=(gO L.sz).mp hb;rw[e]at h1;have:=L.inj _ _ _ h1 h2
 lia
theorem Lay.perm(L:Lay mask done ow):((lv mask ow).map (·.2)).Perm (List.range done.length):=by
 refine(Qk L.nodup List.nodup_range).mpr λk=>?_;rw[x_,Ov];constructor
 .rintro⟨q,hq,rfl⟩;exact L.bd _ _ ((gO L.sz).mp hq)
 .intro hk;obtain⟨j,hj⟩:=L.on k hk;exact⟨(j,k),(gO L.sz).mpr hj,rfl⟩
theorem Lay.len(L:Lay mask done ow):(lv mask ow).length=done.length:=by
 have:=L.perm.length_eq;simpa using this
theorem oB(hsz:ow.size=mask+1)(j:Nat):taken ow j↔j∈(lv mask ow).map (·.1):=by
 rw[x_];constructor
 .rintro⟨k,hk⟩;exact⟨(j,k),(gO hsz).mpr hk,rfl⟩
 .rintro⟨q,hq,rfl⟩;exact⟨q.2,(gO hsz).mp hq⟩
theorem Lay.step(hk:∃k,mask+1=2 ^ k)(L:Lay mask done ow)(hr:done.length<=mask)(h:Int) :
  ∃j,SetTable.layClean.free mask ow (SetTable.turns mask) (SetTable.bits h%(mask+1)) (SetTable.bits h)=some j/\Lay mask (done++[h]) (ow.setIfInBounds j (some done.length)):=by
 have hup:((lv mask ow).map (·.1)).Pairwise (· < ·):=O6.mpr (zk mask ow);obtain⟨n,h1,h2⟩:=oE hk hup (by rw[c_,L.len];exact hr) _ _ (mi mask h) (uW h);rw[<- oB L.sz]at h2;obtain⟨m,g1,g2,g3,g4⟩:=lb L.sz (SetTable.turns mask) _ (SetTable.bits h) (mi mask h) ⟨n,by unfold SetTable.turns;lia,h2⟩;refine⟨_,g1,?_⟩;generalize hj:(it mask (st mask (SetTable.bits h%(mask+1)) (SetTable.bits h)) m).j=j at *;have hjl:j<ow.size:=by rw[L.sz];lia
 have at_:∀x:Nat,(ow.setIfInBounds j (some done.length))[x]?=if x=j then some (some done.length)else ow[x]?:=λx=>by
  rw[Array.getElem?_setIfInBounds]
  by_cases e:j=x
  .subst e;simp[hjl]
  .rw[l_ e,l_ (Pw e)]
 have keep:∀x,taken ow x->taken (ow.setIfInBounds j (some done.length)) x:=λx aG=>by
  obtain⟨k,hx⟩:=aG;refine⟨k,?_⟩;rw[at_,l_ (λz=>g2 ⟨k,by rw[<- z];exact hx⟩)];exact hx
 refine⟨by rw[Array.size_setIfInBounds];exact L.sz,λx k hx=>?_,λk hk'=>?_,λx y k hx hy=>?_,λx k h' hx hh=>?_⟩
 .rw[at_]at hx;rw[t_,PM]
  split at hx
  .cases hx;lia
  .have:=L.bd x k hx;lia
 .rw[t_,PM]at hk'
  by_cases e:k=done.length
  .exact⟨j,by rw[at_,k_ rfl,e]⟩
  .obtain⟨x,hx⟩:=L.on k (by lia);exact⟨x,by rw[at_,l_ (λz=>g2 ⟨k,by rw[<- z];exact hx⟩)];exact hx⟩
 .rw[at_]at hx hy
  split at hx<;>split at hy
  .lia
  .cases hx;have:=L.bd y _ hy;lia
  .cases hy;have:=L.bd x _ hx;lia
  .exact L.inj x y k hx hy
 .rw[at_]at hx
  split at hx
  .rename_i e;cases hx;rw[J_ (h_ _),Nat.sub_self]at hh;cases hh;exact⟨m,by rw[hj,e],λm' hm'=>keep _ (g4 m' hm')⟩
  .have hk':=L.bd x k hx;rw[N_ hk']at hh;obtain⟨m2,a1,a2⟩:=L.ch x k h' hx hh;exact⟨m2,a1,λm' hm'=>keep _ (a2 m' hm')⟩
theorem rO(hk:∃k,mask+1=2 ^ k):∀(rest done:Sz)(ow:Array (Option Nat)),Lay mask done ow->done.length+rest.length<=mask->
  ∃KM,rest.foldl (λacc h=>do
   let (owner,k) <- acc
   let j <- SetTable.layClean.free mask owner (SetTable.turns mask) (SetTable.bits h%(mask+1)) (SetTable.bits h)
   pure (owner.setIfInBounds j (some k),k+1)) (some (ow,done.length))=some (KM,done.length+rest.length)/\Lay mask (done++rest) KM
 | [],done,ow,L,_=>⟨ow,rfl,by rw[O9];exact L⟩
 | h::rest,done,ow,L,hl=>by
  rw[H_]at hl;obtain⟨j,h1,L2⟩:=L.step hk (by lia) h;obtain⟨KM,h3,L3⟩:=rO hk rest (done++[h]) _ L2 (by rw[t_,PM];lia);refine⟨KM,?_,by rw[Po]at L3;exact L3⟩;rw[QE];have e:(do
   let (owner,k) <- some (ow,done.length)
   let j <- SetTable.layClean.free mask owner (SetTable.turns mask) (SetTable.bits h%(mask+1)) (SetTable.bits h)
   pure (owner.setIfInBounds j (some k),k+1):Option _)=some (ow.setIfInBounds j (some done.length),done.length+1):=by
   show(SetTable.layClean.free mask ow (SetTable.turns mask) (SetTable.bits h%(mask+1)) (SetTable.bits h)).bind _=_;rw[h1];rfl
  rw[e];rw[t_,PM]at h3;rw[h3,H_,Rb,Nat.add_comm 1]
theorem xQ(mask:Nat):Lay mask [] (Array.replicate (mask+1) none):=by
 have no:∀(j k:Nat),(Array.replicate (mask+1) (none:Option Nat))[j]?≠some (some k):=λj k h=>by
  rw[Array.getElem?_replicate]at h
  split at h<;>cases h
 exact⟨by simp,λj k h=>absurd h (no j k),λk h=>by simp at h,λj _ k h=>absurd h (no j k),λj k _ h=>absurd h (no j k)⟩
theorem sf(hk:∃k,mask+1=2 ^ k)(hs:Array Int)(hl:hs.size<=mask):∃ow,SetTable.layClean mask hs=some ow/\Lay mask hs.toList ow:=by
 obtain⟨ow,h1,h2⟩:=rO hk hs.toList [] _ (xQ mask) (by simpa using hl);refine⟨ow,?_,h2⟩;unfold SetTable.layClean;rw[<- Array.foldl_toList];have:(List.foldl (λacc h=>do
   let (owner,k) <- acc
   let j <- SetTable.layClean.free mask owner (SetTable.turns mask) (SetTable.bits h%(mask+1)) (SetTable.bits h)
   pure (owner.setIfInBounds j (some k),k+1)) (some (Array.replicate (mask+1) none,0)) hs.toList)=some (ow,0+hs.toList.length):=h1
 rw[this];rfl
theorem CU{mask:Nat}(hk:∃k,mask+1=2 ^ k)(finger moves:Nat)(led plain:Bool){α:Type}(es:Array (Int×α))(hl:es.size<=mask) :
  ∃t' order es',SetTable.laid mask finger moves led plain (es.map (·.1))=some (t',order)/\order.filterMap (es[·]?)=es'/\es'.size=es.size/\es'.toList.Perm es.toList/\t'.mask=mask/\(t'.led=led/\t'.plain=plain)/\t'.place.size=es.size/\Ok t' (es'.toList.map (·.1)):=by
 obtain⟨ow,h1,L⟩:=sf hk (es.map (·.1)) (by simpa using hl);have hpm:=L.perm;have hln:=L.len;have GZ:(es.map (·.1)).toList.length=es.size:=by simp
 rw[GZ]at hpm hln;have e0:((lv mask ow).map (·.2)).toArray.filterMap (es[·]?)=(((lv mask ow).map (·.2)).filterMap (es[·]?)).toArray:=by simp
 have hperm:(((lv mask ow).map (·.2)).filterMap (es[·]?)).Perm es.toList:=by
  have:=hpm.filterMap (es[·]?);rwa [filterMap_getElem?_range]at this
 have JP:∀q∈lv mask ow,q.2<es.size:=λq hq=>by
  have:=L.bd _ _ ((gO L.sz).mp hq);rwa [GZ]at this
 have G0:(((lv mask ow).map (·.2)).filterMap (es[·]?)).map (·.1)=(lv mask ow).map λq=>((es.map (·.1)).toList.getD q.2 0):=by
  have:∀l:List (Nat×Nat),(∀q∈l,q.2<es.size)->((l.map (·.2)).filterMap (es[·]?)).map (·.1)=l.map λq=>((es.map (·.1)).toList.getD q.2 0):=by
   intro l
   induction l with
   | nil=>intro _;rfl
   | cons q l ih=>
    intro hq;have hh:=hq q j_;rw[G_,List.filterMap_cons_some (b:=es[q.2]) (O5 hh),G_,ih λx hx=>hq x (i_ _ hx),G_];congr 1;simp[List.getD,hh]
  exact this _ JP
 refine⟨_,_,_,(by unfold SetTable.laid;rw[h1];rfl),rfl,?_,?_,rfl,⟨rfl,rfl⟩,?_,?_⟩
 .show(((lv mask ow).map (·.2)).toArray.filterMap (es[·]?)).size=_;rw[e0,p_,hperm.length_eq];simp
 .show(((lv mask ow).map (·.2)).toArray.filterMap (es[·]?)).toList.Perm _;rw[e0];exact hperm
 .show((lv mask ow).map (·.1)).toArray.size=_;simp[hln]
 .have Mg:(((lv mask ow).map (·.2)).toArray.filterMap (es[·]?)).toList.map (·.1)=(lv mask ow).map λq=>((es.map (·.1)).toList.getD q.2 0):=by
   rw[e0];exact G0
  have pm:∀x,x∈((lv mask ow).map (·.1))↔taken ow x:=λx=>(oB L.sz x).symm;refine⟨rfl,hk,O6.mpr (zk mask ow),λx hx=>?_,?_,?_,λq hq=>?_⟩
  .obtain⟨k,hx⟩:=(pm x).mp hx;have:=(Qj.mp hx).1;show x<=mask;have:=L.sz
   lia
  .show((lv mask ow).map (·.1)).toArray.size=_;rw[p_,c_];exact(by rw[show(((lv mask ow).map (·.2)).toArray.filterMap (es[·]?)).toList.map (·.1)=(lv mask ow).map λq=>((es.map (·.1)).toList.getD q.2 0)from Mg,c_]:(lv mask ow).length=((((lv mask ow).map (·.2)).toArray.filterMap (es[·]?)).toList.map (·.1)).length)
  .show((lv mask ow).map (·.1)).toArray.size<=mask;simp[hln];exact hl
  .have Bl:q∈((lv mask ow).map (·.1)).zip ((((lv mask ow).map (·.2)).toArray.filterMap (es[·]?)).toList.map (·.1)):=hq;rw[Mg,List.zip_map']at Bl;obtain⟨r,hr,rfl⟩:=x_.mp Bl;have hr1:=(gO L.sz).mp hr;have hr2:=JP r hr;have hr3:(es.map (·.1)).toList[r.2]?=some ((es.map (·.1)).toList.getD r.2 0):=by
    have:r.2<(es.map (·.1)).toList.length:=by simpa using hr2
    rw[g_,f_ this];rfl
   obtain⟨m,a1,a2⟩:=L.ch r.1 r.2 _ hr1 hr3;exact⟨m,a1,λm' hm'=>(pm _).mpr (a2 m' hm')⟩
structure SK{prog:Program}{w:World}{K:Type}[DecidableEq K](knd:HeapKind prog w K):Prop where
 cls:∀{A:Around}{E:Value->Shared->Prop}{s:Shared}{k:K}{a:Addr}{Q:Bool->Shared->Prop},knd.is s.heap k a->Q false s->wpAny (model prog w) A (ofAClassStatement 8 (.ref a)) Q E s
 hbv:∀{A:Around}{E:Value->Shared->Prop}{s:Shared}{k:K}{a:Addr}{Q:Bool->Shared->Prop},knd.is s.heap k a->(∀b,Q b s)->wpAny (model prog w) A (hashByValue 8 (.ref a)) Q E s
def ed:Sy:=[7,31,127,511,2047,8191]
theorem pq(h:m∈ed):7<=m/\m<=8191/\m%2=1:=by
 unfold ed at h;simp only[s_,OR,P_]at h;rcases h with rfl | rfl | rfl | rfl | rfl | rfl<;>decide
section
variable {prog:SF}{w:SI}{K:Type}[DecidableEq K]{knd:HeapKind prog w K}{A:SG}{E:Sj}{s:SE}
def ent(knd:HeapKind prog w K)(x:K×SM):Int×SC:=(knd.hash x.1,.ref x.2)
structure Tab(knd:HeapKind prog w K)(es:Array (Int×Value))(t:SetTable)(xs:List (K×Addr)):Prop where
 perm:es.toList.Perm (xs.map (ent knd))
 ok:Ok t (es.toList.map (·.1))
 msk:t.mask∈ed
 nf:t.place.size*5<t.mask*3
theorem Tab.size(T:Tab knd es t xs):es.size=xs.length:=by
 have:=T.perm.length_eq;simpa using this
theorem Tab.psize(T:Tab knd es t xs):t.place.size=es.size:=by
 have:=T.ok.len;simpa using this
theorem fits_of(o:Ok t hs)(hn:t.place.size=n):t.fits n=true:=by
 unfold SetTable.fits SetTable.fill;rw[o.dum];have:=o.lt;simp[hn];lia
theorem Tab.fits(T:Tab knd es t xs):t.fits es.size=true:=fits_of T.ok T.psize
theorem Tab.mem{es:Array (Int×SC)}{t:SetTable}{xs:List (K×SM)}(T:Tab knd es t xs){i:Nat}{e:Int×SC}(h:es[i]?=some e):∃x∈xs,e=ent knd x:=by
 have h1:e∈es.toList:=by have:=Array.mem_of_getElem? h;simpa using this
 obtain⟨x,hx,e2⟩:=x_.mp (T.perm.mem_iff.mp h1);exact⟨x,hx,e2.symm⟩
theorem Ck(S:SK knd){b:SM}{k:K}(gh:knd.is s.heap k b){stored:Sr}(hst:∀v∈stored,∃k' c,v=.ref c/\knd.is s.heap k' c){Q:Bool->SE->Prop}(h:Q false s) :
  wpAny (model prog w) A (searchCouldBeSeen (.ref b) stored) Q E s:=by
 unfold searchCouldBeSeen;refine a_ ?_;refine Qo _ (λrest r s'=>s'=s/\r=(none,())/\∀v∈rest,∃k' c,v=.ref c/\knd.is s.heap k' c) _ ?_ ?_ _ _ ⟨rfl,rfl,hst⟩
 .rintro x rest r s' ⟨rfl,rfl,hr⟩;obtain⟨k',c,rfl,hc⟩:=hr x j_;dsimp only;have HF:∀v∈rest,∃k' c,v=Value.ref c/\knd.is s'.heap k' c:=λv hv=>hr v (i_ _ hv)
  split
  .exact d_ ⟨rfl,rfl,HF⟩
  .refine a_ (knd.quiet gh ?_);simp only[Rc,z_,OS];refine a_ (knd.quiet hc ?_);simp only[Rc,z_,OS];refine a_ (S.cls gh ?_);simp only[z_,OS];refine a_ (S.cls hc ?_);simp only[z_,OS];exact d_ ⟨rfl,rfl,HF⟩
 .rintro r s' ⟨rfl,rfl,_⟩;exact d_ h
theorem su(h:Q true s):wpAny (model prog w) A (isSame (.ref c) (.ref c)) Q E s:=by
 unfold isSame;dsimp only;rw[k_ (by simp)];exact d_ h
theorem om(S:SK knd)(hu:knd.room A){a b:SM}{k:K}{o:Obj}{es:Array (Int×SC)}{ep:Nat}{t:SetTable}{xs:List (K×SM)}(ho:s.heap.get? a=some o)(hd:o.data=.set es ep t)(T:Tab knd es t xs)
  (Bm:∀x∈xs,knd.is s.heap x.1 x.2) (gh:knd.is s.heap k b) {ki:Bool} {Q:SetFound->SE->Prop}
  (qC:∀c,(k,c)∈xs->∀i,Q (.there (if ki=true then none else some i)) s)
  (hout:(∀c,(k,c)∉xs)->∀m,(it t.mask (t.probeStart (knd.hash k)) m).j∉t.place.toList->(∀m'<m,(it t.mask (t.probeStart (knd.hash k)) m').j∈t.place.toList)->Q (.free (it t.mask (t.probeStart (knd.hash k)) m).j false) s)
  (mf:Nat) (hmf:mf<10*SetTable.turns t.mask) (DA:(it t.mask (t.probeStart (knd.hash k)) mf).j∉t.place.toList) :
  ∀(fuel m:Nat)(AY:Option SetTable.Probe),AY.getD (t.probeStart (knd.hash k))=it t.mask (t.probeStart (knd.hash k)) m->
   (∀m'<m,(it t.mask (t.probeStart (knd.hash k)) m').j∈t.place.toList/\∀i:Nat,t.place[i]?=some (it t.mask (t.probeStart (knd.hash k)) m').j->∀c,(k,c)∈xs->es[i]?≠some (ent knd (k,c)))->mf-m<fuel->
   wpAny (model prog w) A (setSearchFrom a (.ref b) (knd.hash k) ki fuel AY) Q E s
 | 0,m,AY,_,_,h=>by lia
 | fuel+1,m,AY,hst,Nu,hfu=>by
  have hle:m<=mf:=by
   rcases Nat.lt_or_ge mf m with h | h
   .exact absurd (Nu mf h).1 DA
   .exact h
  have f:=T.fits;unfold setSearchFrom;refine a_ (OH ho hd f ?_);dsimp only;rw[l_ (by unfold SetTable.gaveWay;have:=(pq T.msk).2.2;simp[this])];rw[hst];have hdum:(it t.mask (t.probeStart (knd.hash k)) m).dummy=none:=jt _ _ rfl m;obtain⟨met,m1,g1,g2,g3⟩:=rL T.ok.dum T.ok.up (λi=>(es[i]?.map (·.1)).getD 0) (knd.hash k) (10*SetTable.turns t.mask) (it t.mask (t.probeStart (knd.hash k)) m) hdum ⟨mf-m,by lia,by rw[<- i5,show m+(mf-m)=mf by lia];exact DA⟩;generalize hpr:t.probe _ (knd.hash k) (it t.mask (t.probeStart (knd.hash k)) m)=pr;have hpr2:pr=some met:=hpr.symm.trans g1;subst hpr2;dsimp only;simp only[<- i5]at g2 g3;have DB:∀m'<m+m1,(it t.mask (t.probeStart (knd.hash k)) m').j∈t.place.toList/\∀i:Nat,t.place[i]?=some (it t.mask (t.probeStart (knd.hash k)) m').j->∀c,(k,c)∈xs->es[i]?≠some (ent knd (k,c)):=λm' hm'=>by
   by_cases h:m'<m
   .exact Nu m' h
   .obtain⟨i,e1,e2⟩:=g2 (m'-m) (by lia);rw[show m+(m'-m)=m' by lia]at e1;have e1':t.place.toList[i]?=some (it t.mask (t.probeStart (knd.hash k)) m').j:=by simpa using e1
    refine⟨Ox e1',λi' hi' c hc z=>?_⟩;have e3:=below_at T.ok.up e1;have e4:=below_at T.ok.up hi';rw[e3]at e4;subst e4;rw[z]at e2;exact e2 rfl
  rcases g3 with ⟨rfl,g4⟩ | ⟨i,p1,p2,rfl⟩
  .dsimp only;refine d_ (hout (λc hc=>?_) (m+m1) g4 λm' hm'=>(DB m' hm').1);have h1:ent knd (k,c)∈es.toList:=T.perm.mem_iff.mpr (Pv hc);obtain⟨i,hi⟩:=Q7.mp h1;have hil:=(o_.mp hi).1;have iO:i<t.place.toList.length:=by have:=T.psize;simp at hil ⊢;lia
   have hz:(t.place.toList[i],knd.hash k)∈t.place.toList.zip (es.toList.map (·.1)):=by
    refine Ox (i:=i) ?_;rw[PQ];exact⟨f_ iO,by rw[m_,hi];rfl⟩
   obtain⟨m0,a1,a2⟩:=T.ok.ch _ hz;simp only at a1 a2;rcases RL m0 (m+m1)with hlt | heq | hgt
   .refine(DB m0 hlt).2 i ?_ c hc (by simpa using hi);rw[a1];simpa using f_ iO
   .rw[<- heq,a1]at g4;exact g4 (OL iO)
   .exact g4 (a2 _ hgt)
  .dsimp only;have hil:i<es.size:=by have:=(Qj.mp p1).1;rw[T.psize]at this;exact this
   obtain⟨e,he⟩:∃e,es[i]?=some e:=⟨es[i],O5 hil⟩;obtain⟨x,hx,rfl⟩:=T.mem he;have hxk:=Bm x hx;have sj:∀m2,it t.mask (it t.mask (t.probeStart (knd.hash k)) m) m2=it t.mask (t.probeStart (knd.hash k)) (m+m2):=λm2=>(i5 ..).symm;have cont:wpAny (model prog w) A (do
     let some (_,y):=es[i]? | unsupported "internal:set-entry"
     let equal <- holding [y] (eqBool y (.ref b))
     let (es',_,t') <- setState a
     if ki&&equal then return .there none
     let some same:=t'.sameMemory t.moves t.mask | unsupported "set.changed-during-lookup:is-the-new-block-at-the-old-address"
     let still <- match (if same then t'.slot (it t.mask (t.probeStart (knd.hash k)) (m+m1)).j else .empty)with
      | .live i'=>match es'[i']? with
       | some (_,y')=>do pure (if <- isSame y' y then some i' else none)
       | none=>pure none
      | _=>pure none
     match still with
     | none=>rule "set.search.anew";setSearchFrom a (.ref b) (knd.hash k) ki fuel none
     | some i'=>if equal then return .there (some i')else setSearchFrom a (.ref b) (knd.hash k) ki fuel (some (it t.mask (t.probeStart (knd.hash k)) (m+(m1+1))))) Q E s:=by
    rw[he];dsimp only[ent];refine a_ (K_ (knd.eqBool hu hxk gh ?_));refine a_ (OH ho hd f ?_);dsimp only
    by_cases hkk:x.1=k
    .rw[v_ hkk];have hin':=qC x.2 (by rw[<- hkk];exact hx);cases hadd:ki with
     | true=>
      simp only[Bool.and_self,PV];have:=hin' 0;rw[hadd]at this;exact d_ this
     | false=>
      simp only[Sg,z_,OS];have wj:t.sameMemory t.moves t.mask=some true:=by unfold SetTable.sameMemory;simp
      rw[wj];dsimp only;simp only[PV];rw[j9 T.ok.up p1];dsimp only;rw[he];dsimp only[ent];refine a_ (su (a_ (d_ ?_)));simp only[PV];have:=hin' i;rw[hadd]at this;exact d_ this
    .rw[Ot hkk];simp only[Bool.and_false,z_,OS];have wj:t.sameMemory t.moves t.mask=some true:=by unfold SetTable.sameMemory;simp
     rw[wj];dsimp only;simp only[PV];rw[j9 T.ok.up p1];dsimp only;rw[he];dsimp only[ent];refine a_ (su (a_ (d_ ?_)));simp only[PV];refine om S hu ho hd T Bm gh qC hout mf hmf DA fuel (m+(m1+1)) _ rfl (λm' hm'=>?_) (by
      have hne:m+m1≠mf:=λz=>DA (by
       rw[<- z];have:t.place.toList[i]?=some (it t.mask (t.probeStart (knd.hash k)) (m+m1)).j:=by simpa using p1
       exact Ox this)
      have hle2:m+m1<=mf:=by
       rcases Nat.lt_or_ge mf (m+m1)with h | h
       .exact absurd (DB mf h).1 DA
       .exact h
      lia)
     by_cases h:m'<m+m1
     .exact DB m' h
     .have:m'=m+m1:=by lia
      subst this;have p1':t.place.toList[i]?=some (it t.mask (t.probeStart (knd.hash k)) (m+m1)).j:=by simpa using p1
      refine⟨Ox p1',λi' hi' c hc z=>?_⟩;have e3:=below_at T.ok.up p1;have e4:=below_at T.ok.up hi';rw[e3]at e4;subst e4;rw[he]at z;have z2:x.2=c:=by
       have:=Option.some.inj z;simp only[ent,Qe,Value.ref.injEq]at this;exact this.2
      have hc':=Bm _ hc;simp only at hc';rw[<- z2]at hc';exact hkk (knd.inj hxk hc')
   by_cases hled:t.led=true
   .rw[l_ (by simp[hled])]
    first | exact cont | exact a_ (d_ cont)
   .rw[k_ (by simpa using hled)];refine a_ (Ck S gh (λv hv=>?_) ?_)
    .obtain⟨e,G1,rfl⟩:=x_.mp hv;have uN:e∈es.toList:=by
      have:=(Array.mem_filter.mp (Array.mem_toList_iff.mp G1)).1;exact Array.mem_toList_iff.mpr this
     obtain⟨y,hy,rfl⟩:=x_.mp (T.perm.mem_iff.mp uN);exact⟨y.1,y.2,rfl,Bm y hy⟩
    .simp only[z_,OS]
     first | exact cont | exact a_ (d_ cont)
end
section
variable {prog:SF}{w:SI}{K:Type}[DecidableEq K]{knd:HeapKind prog w K}{A:SG}{E:Sj}{s:SE}
def iB(knd:HeapKind prog w K)(a:SM)(xs:List (K×SM))(h:SH):Prop:=
 ∃o es ep t,h.get? a=some o/\o.ExactSet/\o.data=.set es ep t/\Tab knd es t xs/\(xs.map (·.1)).Nodup
theorem iB.typeIs(h:iB knd a xs s.heap):s.TypeIs (.ref a) "set":=let ⟨o,_,_,_,ho,hc,_⟩:=h;⟨o,ho,hc.1⟩
theorem As(h:m∈ed):10*SetTable.turns m<100000:=by
 have:=(pq h).2.1;unfold SetTable.turns;lia
theorem lY{h:SH}{a:SM}{o:Obj}{es:Array (Int×SC)}{ep:Nat}{t:SetTable}(ho:h.get? a=some o)(hd:o.data=.set es ep t)(es':Array (Int×SC))(t':SetTable) :
  (h.update a (Obj.putSet es' t')).get? a=some {o with data:=.set es' (ep+1) t'}:=by
 have:=Qg (Obj.putSet es' t') ho (by rw[putSet_of es' t' hd];rfl);rw[putSet_of es' t' hd]at this;exact this
theorem lT(h:n<=5000):n<=sizeLine:=by rw[OJ];lia
theorem wC(hm:m∈ed)(h1:n*5<m*3)(h2:m*3<=(n+1)*5)(h3:n+1<=4914):∃m',m'∈ed/\SetTable.sizeAbove (SetTable.grown (n+1))-1=m'/\SetTable.sizeAbove (SetTable.grown (n+1))<=8192/\(n+1)*5<m'*3/\n+1<=m':=by
 have key:∀n0 m',n=n0->m'∈ed/\SetTable.sizeAbove (SetTable.grown (n0+1))-1=m'/\SetTable.sizeAbove (SetTable.grown (n0+1))<=8192/\(n0+1)*5<m'*3/\n0+1<=m'->∃m',m'∈ed/\SetTable.sizeAbove (SetTable.grown (n+1))-1=m'/\SetTable.sizeAbove (SetTable.grown (n+1))<=8192/\(n+1)*5<m'*3/\n+1<=m':=λn0 m' e h=>⟨m',by subst e;exact h⟩;unfold ed at hm;simp only[s_,OR,P_]at hm;rcases hm with rfl | rfl | rfl | rfl | rfl | rfl
 .exact key 4 31 (by lia) (by decide)
 .exact key 18 127 (by lia) (by decide)
 .exact key 76 511 (by lia) (by decide)
 .exact key 306 2047 (by lia) (by decide)
 .exact key 1228 8191 (by lia) (by decide)
 .lia
theorem yq(h:m∈ed):∃k,m+1=2 ^ k:=by
 unfold ed at h;simp only[s_,OR,P_]at h;rcases h with rfl | rfl | rfl | rfl | rfl | rfl
 .exact⟨3,rfl⟩
 .exact⟨5,rfl⟩
 .exact⟨7,rfl⟩
 .exact⟨9,rfl⟩
 .exact⟨11,rfl⟩
 .exact⟨13,rfl⟩
def Fl(a:SM)(L:Bool)(h:SH):Prop:=∃o es ep t,h.get? a=some o/\o.data=.set es ep t/\t.led=L/\t.plain=true
def Hw(prog:SF)(w:SI)(b:SM)(h:SH):Prop:=∀(A:SG)(E:Sj)(s:SE)(Q:Bool->SE->Prop),s.heap=h->Q true s->wpAny (model prog w) A (hashByValue 8 (.ref b)) Q E s
theorem zH(ho:s.heap.get? a=some o)(hd:o.data=.set es ep t)(hp:es.toList.Perm l)(ok:Ok t (es.toList.map (·.1)))(hn:es.size=n+1)(hm:t.mask∈ed)(h1:n*5<t.mask*3)(h2:t.mask*3<=(n+1)*5)(h3:n+1<=4914)
  (h:∀es' t',es'.toList.Perm l->Ok t' (es'.toList.map (·.1))->t'.mask∈ed->t'.place.size*5<t'.mask*3->(t'.led=t.led/\t'.plain=t.plain)->Q () {s with heap:=s.heap.update a (Obj.putSet es' t')}) :
  wpAny (model prog w) A (setRelay a (SetTable.grown (n+1))) Q E s:=by
 obtain⟨m',k1,k2,k3,k4,k5⟩:=wC hm h1 h2 h3;have hsz:t.place.size=es.size:=by have:=ok.len;simpa using this
 obtain⟨t',order,es',g1,g2,g3,g4,g5,g6,g7,g8⟩:=CU (yq k1) t.finger (t.movedTo (SetTable.sizeAbove (SetTable.grown (n+1))-1)) t.led t.plain es (by lia);have hr:t.relaid (es.map (·.1)) (SetTable.grown (n+1))=some (t',order):=by
  unfold SetTable.relaid;rw[<- g1,k2]
 unfold setRelay;refine a_ (OH ho hd (fits_of ok hsz) ?_);dsimp only;rw[l_ (by have:=OJ;lia)];refine a_ ?_;show wpAny _ _ (do
  let some (t,order):=t.relaid (es.map (·.1)) (SetTable.grown (n+1)) | unsupported "internal:set-table-without-room"
  let es':=order.filterMap (es[·]?)
  if es'.size != es.size then unsupported "internal:set-table-lost-an-element"
  pure (es',t)) _ _ _
 rw[hr];dsimp only;rw[g2,l_ (by simp[g3])];refine d_ ?_;dsimp only;exact wpAny_storeSet_of ho hd (h es' t' (g4.trans hp) g8 (by rw[g5];exact k1) (by rw[g5,g7,hn];exact k4) g6) (by rw[g3,hn];exact lT (by lia))
theorem CL(S:SK knd)(hu:knd.room A){a b:SM}{k:K}{xs:List (K×SM)}(hS:iB knd a xs s.heap)(Bm:∀x∈xs,knd.is s.heap x.1 x.2)(gh:knd.is s.heap k b)(hl:xs.length+1<=4914){Q:Bool->SE->Prop}
  (qC:k∈xs.map (·.1)->Q false s) (hout:k∉xs.map (·.1)->∀h',Heap.SameBut a s.heap h'->iB knd a (xs++[(k,b)]) h'->(∀L,Hw prog w b s.heap->Fl a L s.heap->Fl a L h')->Q true {s with heap:=h'}) :
  wpAny (model prog w) A (setAddHashed a (.ref b) (knd.hash k)) Q E s:=by
 obtain⟨o,es,ep,t,ho,hex,hd,T,hn⟩:=hS;unfold setAddHashed;refine K_ ?_;unfold setAddHashedIn;refine a_ (OH ho hd T.fits ?_);dsimp only;rw[l_ (by simp[byScan,Value.scannable])];obtain⟨mf,m1,m2⟩:=T.ok.soon (knd.hash k);have ht:=As T.msk;unfold setSearch;refine a_ (om S hu ho hd T Bm gh (λc hc i=>?_) (λhc m hm1 Mh=>?_) mf m1 m2 100000 0 none rfl (λm' hm'=>by lia) (by lia))
 .simp only[PV];exact d_ (qC (x_.mpr ⟨(k,c),hc,rfl⟩))
 .dsimp only;have hk:k∉xs.map (·.1):=λhm=>by
   obtain⟨x,hx,e⟩:=x_.mp hm;obtain⟨y,c⟩:=x;simp only at e;subst e;exact hc c hx
  refine a_ (OH ho hd T.fits ?_);dsimp only;have hmk:=pq T.msk;have hnf:=T.nf;have hps:=T.psize;have hes:=T.size;generalize hj:(it t.mask (t.probeStart (knd.hash k)) m).j=j at *;have rest:∀pl:Bool,(Hw prog w b s.heap->t.plain=true->pl=true)->wpAny (model prog w) A (do
    storeSet a (SetTable.insertAt es (t.put j).2 (knd.hash k,.ref b)) {(t.put j).1 with plain:=pl}
    if({(t.put j).1 with plain:=pl}:SetTable).tooFull then setRelay a (SetTable.grown (es.size+1))
    return true) Q E s:=λpl hfl=>by
   have flt:∀L,Fl a L s.heap->t.led=L/\t.plain=true:=λL ⟨o',es',JQ,t',c1,c2,c3,c4⟩=>by
    rw[ho]at c1;cases c1;rw[hd]at c2;cases c2;exact⟨c3,c4⟩
   obtain⟨p,q1,q2,q3⟩:=T.ok.put (knd.hash k) m (by rw[hj];exact hm1) Mh (by lia) pl;rw[hj]at q1 q3;rw[q1];have i1:=SetTable.toList_insertAt es p (knd.hash k,Value.ref b);have i2:(SetTable.insertAt es p (knd.hash k,Value.ref b)).toList.map (·.1)=(es.toList.map (·.1)).take p++knd.hash k::(es.toList.map (·.1)).drop p:=by
    rw[i1,OB,G_,RV,List.map_drop]
   have i3:(SetTable.insertAt es p (knd.hash k,Value.ref b)).toList.Perm ((xs++[(k,b)]).map (ent knd)):=by
    have e1:=SetTable.insertAt_perm es p (knd.hash k,Value.ref b);rw[Array.toList_push]at e1;refine e1.trans ?_;rw[OB];exact T.perm.append_right _
   have i4:(SetTable.insertAt es p (knd.hash k,Value.ref b)).size=es.size+1:=by
    rw[<- OF,i1,pV];simp
   rw[<- i2]at q3;have hnd:((xs++[(k,b)]).map (·.1)).Nodup:=by
    rw[OB];refine List.nodup_append.mpr ⟨hn,by simp,λx hx y hy=>?_⟩;rw[G_,R7,u_]at hy;subst hy;rintro rfl;exact hk hx
   have hst:=lY ho hd (SetTable.insertAt es p (knd.hash k,Value.ref b)) {(t.put j).1 with plain:=pl};have hsb:=OT s.heap a (Obj.putSet (SetTable.insertAt es p (knd.hash k,Value.ref b)) {(t.put j).1 with plain:=pl});have wm:({(t.put j).1 with plain:=pl}:SetTable).mask=t.mask:=rfl;have JR:({(t.put j).1 with plain:=pl}:SetTable).place.size=es.size+1:=by
    have:=q3.len;rw[c_,OF,i4]at this;exact this
   refine a_ (wpAny_storeSet_of ho hd ?_ (by rw[i4];exact lT (by lia)))
   by_cases hf:({(t.put j).1 with plain:=pl}:SetTable).tooFull=true
   .rw[k_ hf];have Mj:t.mask*3<=(es.size+1)*5:=by
     unfold SetTable.tooFull SetTable.fill at hf;rw[q3.dum]at hf;rw[JR,wm]at hf;simpa using hf
    refine a_ (zH hst rfl i3 q3 i4 T.msk (by rw[wm];lia) (by rw[wm];exact Mj) (by lia) λes' t' r1 r2 r3 r4 r5=>?_);refine d_ (hout hk _ (hsb.trans (OT _ a _)) ⟨_,es',_,t',lY hst rfl es' t',hex,rfl,⟨r1,r2,r3,r4⟩,hnd⟩ λL y z=>⟨_,es',_,t',lY hst rfl es' t',rfl,?_,?_⟩)
    .rw[r5.1];exact(flt L z).1
    .rw[r5.2];exact hfl y (flt L z).2
   .rw[l_ hf]
    first
     | refine d_ (hout hk _ hsb ?_ λL y z=>⟨_,_,_,_,hst,rfl,(flt L z).1,hfl y (flt L z).2⟩)
     | refine a_ (d_ (d_ (hout hk _ hsb ?_ λL y z=>⟨_,_,_,_,hst,rfl,(flt L z).1,hfl y (flt L z).2⟩)))
    refine⟨_,_,_,_,hst,hex,rfl,⟨i3,q3,T.msk,?_⟩,hnd⟩;unfold SetTable.tooFull SetTable.fill at hf;rw[q3.dum]at hf;rw[JR,wm]at hf ⊢;simpa using hf
  have Nv:({(t.put j).1 with plain:=t.plain}:SetTable)=(t.put j).1:=rfl
  by_cases iO:t.plain=true
  .rw[k_ (show(t.put j).1.plain=true from iO)];have one:=rest t.plain λ_ h=>h;rw[Nv]at one
   by_cases hB:Hw prog w b s.heap
   .exact a_ (hB _ _ _ _ rfl (by simpa using one))
   .refine a_ (S.hbv gh λbv=>?_);cases bv with
    | true=>simpa using one
    | false=>simpa using rest false λz=>absurd z hB
  .rw[l_ (show ¬(t.put j).1.plain=true from iO)];refine a_ (d_ ?_);have:=rest t.plain λ_ h=>h;rw[Nv]at this;simpa using this
end
end St
abbrev PySem.Shared.sz(s:PySem.Shared):Nat:=s.heap.objs.size
namespace L2
open PySem PySem.Spec PyProof.Rows
abbrev Key:=Sum Int Str
abbrev SR:=List Key
abbrev SQ:=List SR
def iN:Key->SC->Bool
 | .inl k,v=>Value.isInt k v
 | .inr x,v=>Value.isStrOf x v
def GF(w:SI):Key->Int
 | .inl k=>hashInt k
 | .inr x=>hashStr w x
theorem a7:∀{k:Key}{v:SC},iN k v=true->(∃i t,k=Sum.inl i/\v=Value.int i t)\/(∃x t,k=Sum.inr x/\v=Value.str x t)
 | .inl i,v,h=>by
  obtain⟨t,e⟩:=Value.isInt_shape (k:=i) (v:=v) h;exact .inl ⟨i,t,rfl,e⟩
 | .inr x,v,h=>by
  obtain⟨t,e⟩:=Value.isStrOf_shape (x:=x) (v:=v) h;exact .inr ⟨x,t,rfl,e⟩
theorem w9(i:Int)(t:Tok):iN (.inl i) (.int i t)=true:=by simp[iN,Value.isInt]
theorem xl(x:Str)(t:Tok):iN (.inr x) (.str x t)=true:=by simp[iN,Value.isStrOf]
theorem FF(a b:Int):decide ((Sum.inl a:Key)=Sum.inl b)=(a==b):=by
 by_cases e:a=b
 .subst e;simp
 .have h:¬(Sum.inl a:Key)=Sum.inl b:=λq=>e (Sum.inl.inj q);rw[Ot h];exact(beq_eq_false_iff_ne.mpr e).symm
theorem GM(a b:Str):decide ((Sum.inr a:Key)=Sum.inr b)=decide (a=b):=by
 by_cases e:a=b
 .subst e;simp
 .have h:¬(Sum.inr a:Key)=Sum.inr b:=λq=>e (Sum.inr.inj q);rw[Ot h,Ot e]
theorem Gg(a:Int)(b:Str):decide ((Sum.inl a:Key)=Sum.inr b)=false:=Ot (λq=>nomatch q)
theorem Gc(a:Str)(b:Int):decide ((Sum.inr a:Key)=Sum.inl b)=false:=Ot (λq=>nomatch q)
def aF(prog:SF)(w:SI):PySem.KeyKind prog w Key where
 is:=iN
 hash:=GF w
 inj:=λv a b ha hb=>by
  rcases a7 ha with ⟨i,t,rfl,rfl⟩ | ⟨x,t,rfl,rfl⟩
  .rcases a7 hb with ⟨j,u,rfl,e⟩ | ⟨y,u,rfl,e⟩
   .injection e with e1 _;rw[e1]
   .exact nomatch e
  .rcases a7 hb with ⟨j,u,rfl,e⟩ | ⟨y,u,rfl,e⟩
   .exact nomatch e
   .injection e with e1 _;rw[e1]
 byValue:=λk v h=>by
  rcases a7 h with ⟨i,t,rfl,rfl⟩ | ⟨x,t,rfl,rfl⟩<;>rfl
 pyHash:=λhv h=>by
  rcases a7 hv with ⟨i,t,rfl,rfl⟩ | ⟨x,t,rfl,rfl⟩
  .exact wpAny_pyHash_int h
  .exact wpAny_pyHash_str h
 eqBool:=λhu hv h=>by
  rcases a7 hu with ⟨i,t,rfl,rfl⟩ | ⟨x,t,rfl,rfl⟩
  .rcases a7 hv with ⟨j,u,rfl,rfl⟩ | ⟨y,u,rfl,rfl⟩
   .rw[FF]at h;exact wpAny_eqBool_int h
   .rw[Gg]at h;exact SeqAt.EqAt.int_str i t y u _ _ _ _ h
  .rcases a7 hv with ⟨j,u,rfl,rfl⟩ | ⟨y,u,rfl,rfl⟩
   .rw[Gc]at h;exact SeqAt.EqAt.str_int x t j u _ _ _ _ h
   .rw[GM]at h;exact wpAny_eqBool_str h
 «strs»:=λk x t v h=>by
  rcases a7 h with ⟨i,u,rfl,e⟩ | ⟨y,u,rfl,e⟩
  .exact nomatch e
  .injection e with e1 _
   subst e1;cases v<;>rfl
theorem qY(prog:SF)(w:SI)(i:Int)(t:Tok):(aF prog w).is (.inl i) (.int i t)=true:=w9 i t
theorem rN(prog:SF)(w:SI)(x:Str)(t:Tok):(aF prog w).is (.inr x) (.str x t)=true:=xl x t
inductive V where
 | non | bl (b:Bool) | int (i:Int) | str (x:Str) | byt (b:Array UInt8) | flt (b:UInt64) | ref (a:Addr) | ty (n:String)
 deriving DecidableEq
abbrev SX:=List V
def RelV:V->SC->Prop
 | .non,u=>u=Value.none
 | .bl b,u=>u=Value.bool b
 | .int i,u=>∃t,u=Value.int i t
 | .str x,u=>∃t,u=Value.str x t
 | .byt b,u=>∃t,u=Value.bytes b t
 | .flt b,u=>∃t,u=Value.float b t
 | .ref a,u=>u=Value.ref a
 | .ty n,u=>u=Value.type n
abbrev av:SX->Sr->Prop:=Paired RelV
theorem av.length{xs:SX}{us:Sr}(r:av xs us):xs.length=us.length:=Paired.length r
theorem av.get:∀{xs:SX}{us:Sr}{i:Nat}{x:V},av xs us->xs[i]?=some x->∃u,us[i]?=some u/\RelV x u
 | _,_,_,_,.nil,e=>by simp at e
 | _,_,0,_,.cons r _,e=>by simp at e;subst e;exact⟨_,rfl,r⟩
 | _,_,i+1,x,.cons _ t,e=>by
  obtain⟨u,h1,h2⟩:=av.get (i:=i) (x:=x) t (by simpa using e);exact⟨u,by simpa using h1,h2⟩
theorem av.set{x:V}{u:SC}(r:RelV x u):∀{xs:SX}{us:Sr}(i:Nat),av xs us->av (xs.set i x) (us.set i u)
 | _,_,_,.nil=>.nil
 | _,_,0,.cons _ t=>.cons r t
 | _,_,i+1,.cons q t=>.cons q (av.set r i t)
theorem av.append:∀{xs ys:SX}{us ws:Sr},av xs us->av ys ws->av (xs++ys) (us++ws)
 | _,_,_,_,.nil,s=>s
 | _,_,_,_,.cons r t,s=>.cons r (av.append t s)
theorem av.take:∀{xs:SX}{us:Sr}(n:Nat),av xs us->av (xs.take n) (us.take n)
 | _,_,0,_=>.nil
 | _,_,_+1,.nil=>.nil
 | _,_,n+1,.cons r t=>.cons r (av.take n t)
theorem av.drop:∀{xs:SX}{us:Sr}(n:Nat),av xs us->av (xs.drop n) (us.drop n)
 | _,_,0,r=>r
 | _,_,_+1,.nil=>.nil
 | _,_,n+1,.cons _ t=>av.drop n t
def Jb:Option V->Option SC->Prop
 | some v,some u=>RelV v u
 | none,none=>True
 | _,_=>False
def KV{κ:Type}:List (κ×V)->List (κ×SC)->Prop:=Paired λ(p:κ×V) (q:κ×SC)=>p.1=q.1/\RelV p.2 q.2
def kV:Key->V
 | .inl i=>.int i
 | .inr x=>.str x
inductive HO where
  | lst (xs:List V)
  | tup (xs:List V)
  | dK (kvs:List (Key×V)) | dT (kvs:List (List Key×V))
  | set (S:Int->Bool) (n:Nat)
  | ins (C dx:Addr) (fs:List (Str×V))
  | own (x:Addr)
  | xd (fs:List (Str×V))
  | met (f x:Addr)
  | rng (lo hi:Int)
  | frz (o:Obj) (u:HO)
 | tab (q:Str) | cod (q:Str)
  | ext (φ:Heap->Prop)
abbrev Hp:=SM->Option HO
def upd(H:Hp)(a:SM)(o:HO):Hp:=λb=>if b=a then some o else H b
theorem ax{H:Hp}{a:SM}{o:HO}:upd H a o a=some o:=by unfold upd;rw[k_ rfl]
theorem aH{H:Hp}{a b:SM}{o:HO}(h:b≠a):upd H a o b=H b:=by unfold upd;rw[l_ h]
theorem a6{H:Hp}{a b:SM}{o:HO}(h:H a=some o)(h':H b=none):a≠b:=by
 intro e;subst e;rw[h]at h';cases h'
section
variable (P:SF)(w:SI)
def bp(H:Hp)(h:SH)(a:SM):HO->Prop
 | .lst xs=>xs.length<=sizeLine/\∃(aX:Sr)(n:Nat),av xs aX/\h.get? a=some {cls:=.type "list",data:=.seq aX.toArray n}
 | .tup xs=>xs.length<=sizeLine/\∃aX:Sr,av xs aX/\IsTup h a aX.toArray
 | .dK kvs=>kvs.length<=sizeLine/\(a==sysModules)=false/\∃vs,KV kvs vs/\h.DictOf (aF P w) a vs
 | .dT kvs=>kvs.length<=sizeLine/\(a==sysModules)=false/\∃xs:List (SR×SM×SC),
   Paired (λ(p:SR×V) (q:SR×SM×SC)=>p.1=q.1/\H q.2.1=some (.tup (p.1.map kV))/\RelV p.2 q.2.2) kvs xs/\
   ∃o es ep,h.get? a=some o/\o.ExactDict/\o.data=.dict es ep/\es.toList=xs.map (entryOfKey (tupleKind (aF P w)))/\(xs.map (·.1)).Nodup
 | .set S n=>h.SetOf (intKind P w) a S n
 | .ins C dx fs=>H dx=some (.own a)/\fs.length<=1000/\dx≠a/\h.get? a=some (PySem.W.instObj C dx)/\
   ∃mA,h.Ns1 dx mA/\(∀f,Jb (fs.lookup f) (mA f))/\PySem.Within mA (fs.map (·.1))
 | .own _=>∃o,h.get? a=some o
 | .xd fs=>∃mA,h.Ns1 a mA/\∀f,Jb (fs.lookup f) (mA f)
 | .rng lo hi=>∃t u v,h.get? a=some {cls:=.type "range",data:=.fields #[.int lo t,.int hi u,.int 1 v]}
 | .frz o u=>h.get? a=some o/\bp H h a u
 | .tab q=>∃ps:Array SC,h.get? a=some {cls:=.none,data:=.fields ps}/\PySem.TriplesOk ps.toList/\∀pos v,PySem.codeAmong pos ps.toList=some v->∃c,v=.ref c/\H c=some (.cod q)
 | .cod q=>∃o vs t,h.get? a=some o/\o.data=.fields vs/\vs[1]?=some (.str q t)
 | .met f x=>h.get? a=some (PySem.W.methodObj (.ref f) (.ref x))
 | .ext φ=>φ h/\(∃o,h.get? a=some o)/\∀h1 h2:SH,φ h1->(∀o,h1.get? a=some o->h2.get? a=some o)->φ h2
def mw(H:Hp)(h:SH):Prop:=∀a o,H a=some o->bp P w H h a o
end
section
variable {P:SF}{w:SI}{H H':Hp}{h h':SH}{a:SM}{o:HO}
theorem bp.lt(x:bp P w H h a o):a<h.objs.size:=by
 cases o with
 | lst xs=>obtain⟨_,_,_,_,e⟩:=x;exact r_ e
 | tup xs=>obtain⟨_,_,_,p⟩:=x;exact p.lt
 | dK kvs=>obtain⟨_,_,_,_,o,_,_,e,_⟩:=x;exact r_ e
 | dT kvs=>obtain⟨_,_,_,_,o,_,_,e,_⟩:=x;exact r_ e
 | set S n=>obtain⟨o,_,_,_,e,_⟩:=x;exact r_ e
 | ins C dx fs=>obtain⟨_,_,_,e,_⟩:=x;exact r_ e
 | own y=>obtain⟨_,e⟩:=x;exact r_ e
 | xd fs=>obtain⟨_,⟨_,_,_,e,_⟩,_⟩:=x;exact r_ e
 | rng lo hi=>obtain⟨_,_,_,e⟩:=x;exact r_ e
 | frz ob u=>obtain⟨e,_⟩:=x;exact r_ e
 | tab q=>obtain⟨_,e,_⟩:=x;exact r_ e
 | cod q=>obtain⟨_,_,_,e,_⟩:=x;exact r_ e
 | met f y=>exact r_ (show h.get? a=some _ from x)
 | ext φ=>obtain⟨_,⟨_,e⟩,_⟩:=x;exact r_ e
theorem Paired.mapP{α β:Type}{F G:α->β->Prop}:∀{l₁:List α}{l₂:List β},Paired F l₁ l₂->(∀a b,F a b->G a b)->Paired G l₁ l₂
 | _,_,.nil,_=>.nil
 | _,_,.cons r t,f=>.cons (f _ _ r) (Paired.mapP t f)
theorem bp.stay(x:bp P w H h a o)(k:∀b u,(b=a\/H b=some (.own a))->h.get? b=some u->h'.get? b=some u)
  (ho:∀b,H b=some (.own a)->H' b=some (.own a)) (ht:∀b xs,H b=some (.tup xs)->H' b=some (.tup xs)) (hc:∀b q,H b=some (.cod q)->H' b=some (.cod q)):bp P w H' h' a o:=by
 induction o with
 | lst xs=>obtain⟨z,aX,n,r,e⟩:=x;exact⟨z,aX,n,r,k _ _ (.inl rfl) e⟩
 | tup xs=>obtain⟨z,aX,r,ob,e,c⟩:=x;exact⟨z,aX,r,ob,k _ _ (.inl rfl) e,c⟩
 | dK kvs=>obtain⟨z,y,vs,r,ob,es,ep,e,c⟩:=x;exact⟨z,y,vs,r,ob,es,ep,k _ _ (.inl rfl) e,c⟩
 | dT kvs=>
  obtain⟨z,y,xs,r,ob,es,ep,e,c⟩:=x;exact⟨z,y,xs,Paired.mapP r λp q z=>⟨z.1,ht _ _ z.2.1,z.2.2⟩,ob,es,ep,k _ _ (.inl rfl) e,c⟩
 | set S n=>obtain⟨ob,es,ep,t,e,c⟩:=x;exact⟨ob,es,ep,t,k _ _ (.inl rfl) e,c⟩
 | ins C dx fs=>
  obtain⟨d,z,ne,e,mA,⟨od,es,ep,e2,c⟩,r⟩:=x;exact⟨ho _ d,z,ne,k _ _ (.inl rfl) e,mA,⟨od,es,ep,k _ _ (.inr d) e2,c⟩,r⟩
 | own y=>obtain⟨ob,e⟩:=x;exact⟨ob,k _ _ (.inl rfl) e⟩
 | xd fs=>obtain⟨mA,⟨od,es,ep,e,c⟩,r⟩:=x;exact⟨mA,⟨od,es,ep,k _ _ (.inl rfl) e,c⟩,r⟩
 | rng lo hi=>obtain⟨t,u,v,e⟩:=x;exact⟨t,u,v,k _ _ (.inl rfl) e⟩
 | frz ob u ih=>obtain⟨e,q⟩:=x;exact⟨k _ _ (.inl rfl) e,ih q⟩
 | tab q=>obtain⟨ps,e,t,c⟩:=x;exact⟨ps,k _ _ (.inl rfl) e,t,λpos v z=>let ⟨b,z1,z2⟩:=c pos v z;⟨b,z1,hc b q z2⟩⟩
 | cod q=>obtain⟨ob,vs,t,e,d⟩:=x;exact⟨ob,vs,t,k _ _ (.inl rfl) e,d⟩
 | met f y=>
  have e:h.get? a=some (PySem.W.methodObj (.ref f) (.ref y)):=x;show h'.get? a=some (PySem.W.methodObj (.ref f) (.ref y));exact k a _ (.inl rfl) e
 | ext φ=>obtain⟨p,⟨o,e⟩,st⟩:=x;exact⟨st _ _ p λo q=>k _ _ (.inl rfl) q,⟨o,k _ _ (.inl rfl) e⟩,st⟩
theorem mw.lt(x:mw P w H h)(e:H a=some o):a<h.objs.size:=(x a o e).lt
theorem mw.fresh(x:mw P w H h)(e:h.objs.size<=a):H a=none:=by
 cases q:H a with
 | none=>rfl
 | some u=>exact absurd (E_ (x.lt q) e) (Qf _)
theorem mw.kept(x:mw P w H h)(k:∀b u,h.get? b=some u->h'.get? b=some u):mw P w H h':=λa o e=>
 (x a o e).stay (λb u _ q=>k b u q) (λ_ q=>q) (λ_ _ q=>q) λ_ _ q=>q
theorem mw.laid(x:mw P w H h)(k:∀b u,h.get? b=some u->h'.get? b=some u)(hp:h.objs.size<=a)(new:bp P w (upd H a o) h' a o):mw P w (upd H a o) h':=λb u e=>by
 have hn:=x.fresh hp
 by_cases hb:b=a
 .subst hb;rw[ax]at e;cases e;exact new
 .rw[aH hb]at e;exact(x b u e).stay (λc v _ q=>k c v q) (λc q=>by rw[aH (a6 q hn)];exact q) (λc xs q=>by rw[aH (a6 q hn)];exact q) λc xs q=>by rw[aH (a6 q hn)];exact q
end
def Rd(H:Hp)(a:SM)(u:HO):Prop:=H a=some u\/∃o,H a=some (.frz o u)
theorem Rd.ok{P:SF}{w:SI}{H:Hp}{h:SH}{a:SM}{u:HO}(r:Rd H a u)(x:mw P w H h):bp P w H h a u:=by
 rcases r with r | ⟨o,r⟩
 .exact x a u r
 .obtain⟨_,q⟩:=x a _ r;exact q
def KB:Option HO->Prop
 | some (.lst _)=>True
 | some (.dK _)=>True
 | some (.dT _)=>True
 | some (.set _ _)=>True
 | some (.ins _ _ _)=>True
 | some (.ext _)=>True
 | _=>False
section
variable {P:SF}{w:SI}{H:Hp}{h h':SH}{x e:SM}{o':HO}
theorem mw.write(ok:mw P w H h)(mu:KB (H x))(he:e=x\/H e=some (.own x))(k:∀b u,b≠e->h.get? b=some u->h'.get? b=some u)(HG:∃u,h'.get? e=some u)
  (new:bp P w (upd H x o') h' x o'):mw P w (upd H x o') h':=λb u q=>by
 have JS:∀c y,H c=some (.own y)->c≠x:=λc y r z=>by subst z;rw[r]at mu;exact mu
 have ntup:∀c xs,H c=some (.tup xs)->c≠x:=λc xs r z=>by subst z;rw[r]at mu;exact mu
 have ncod:∀c q,H c=some (.cod q)->c≠x:=λc q r z=>by subst z;rw[r]at mu;exact mu
 by_cases hb:b=x
 .subst hb;rw[ax]at q;cases q;exact new
 .rw[aH hb]at q
  by_cases hbe:b=e
  .have q':H b=some (.own x):=by
    rcases he with z | z
    .exact absurd (hbe.trans z) hb
    .rw[hbe];exact z
   rw[q]at q';cases q';obtain⟨v,hv⟩:=HG;exact⟨v,by rw[hbe];exact hv⟩
  .refine(ok b u q).stay (λc v hc r=>k c v ?_ r) (λc r=>by rw[aH (JS c b r)];exact r) (λc xs r=>by rw[aH (ntup c xs r)];exact r) λc xs r=>by rw[aH (ncod c xs r)];exact r
   rcases hc with rfl | hc
   .exact hbe
   .rintro rfl;rcases he with z | z
    .exact JS c b hc z
    .rw[hc]at z;cases z;exact hb rfl
end
structure Un(fs ex:List Addr)(H H':Hp)(h h':Heap):Prop where
 keep:∀b o,h.get? b=some o->H b=none->b∉fs->b∉ex->h'.get? b=some o
 slot:∀b o,h.get? b=some o->H b=none->b∈fs->b∉ex->∃sl,h'.get? b=some {o with slots:=sl}
 free:∀b o,h.get? b=some o->H b=none->b∉ex->H' b=none
 there:∀b o,h.get? b=some o->b∉ex->∃o',h'.get? b=some o'
 tups:∀b xs,H b=some (.tup xs)->H' b=some (.tup xs)
 frzs:∀b o u,H b=some (.frz o u)->H' b=some (.frz o u)
 tbls:∀b q,H b=some (.tab q)->H' b=some (.tab q)
section
variable {fs JT ex ex':Sv}{H H1 H2:Hp}{h h1 h2 h':SH}{a x e:SM}{o:HO}
theorem Un.any(u:Un fs ex H H1 h h1){b:SM}{ob:Obj}(q:h.get? b=some ob)(n:H b=none)(hx:b∉ex):∃sl,h1.get? b=some {ob with slots:=sl}:=by
 by_cases hb:b∈fs
 .exact u.slot b ob q n hb hx
 .exact⟨ob.slots,u.keep b ob q n hb hx⟩
theorem Un.trans(a:Un fs ex H H1 h h1)(b:Un fs ex H1 H2 h1 h2):Un fs ex H H2 h h2 where
 keep:=λc ob q n hc hx=>b.keep c ob (a.keep c ob q n hc hx) (a.free c ob q n hx) hc hx
 slot:=λc ob q n hc hx=>by
  obtain⟨sl,e1⟩:=a.slot c ob q n hc hx;obtain⟨Ml,e2⟩:=b.slot c _ e1 (a.free c ob q n hx) hc hx;exact⟨Ml,e2⟩
 free:=λc ob q n hx=>by
  obtain⟨o',e1⟩:=a.there c ob q hx;exact b.free c o' e1 (a.free c ob q n hx) hx
 there:=λc ob q hx=>by
  obtain⟨o',e1⟩:=a.there c ob q hx;exact b.there c o' e1 hx
 tups:=λc xs q=>b.tups c xs (a.tups c xs q)
 frzs:=λc ob xs q=>b.frzs c ob xs (a.frzs c ob xs q)
 tbls:=λc ps q=>b.tbls c ps (a.tbls c ps q)
theorem Un.kept(k:∀b u,h.get? b=some u->h'.get? b=some u):Un fs ex H H h h':=
 ⟨λb ob q _ _ _=>k b ob q,λb ob q _ _ _=>⟨ob.slots,k b ob q⟩,λ_ _ _ n _=>n,λb ob q _=>⟨ob,k b ob q⟩,λ_ _ q=>q,λ_ _ _ q=>q,λ_ _ q=>q⟩
theorem Un.refl:Un fs ex H H h h:=Un.kept λ_ _ q=>q
theorem Un.laid(k:∀b u,h.get? b=some u->h'.get? b=some u)(hp:h.objs.size<=a)(hn:H a=none):Un fs ex H (upd H a o) h h' where
 keep:=λb u q _ _ _=>k b u q
 slot:=λb u q _ _ _=>⟨u.slots,k b u q⟩
 free:=λb u q n _=>by rw[aH (y_ (E_ (r_ q) hp))];exact n
 there:=λb u q _=>⟨u,k b u q⟩
 tups:=λb xs q=>by rw[aH (a6 q hn)];exact q
 frzs:=λb u xs q=>by rw[aH (a6 q hn)];exact q
 tbls:=λb ps q=>by rw[aH (a6 q hn)];exact q
theorem Un.write(mu:KB (H x))(he:e=x\/H e=some (.own x))(k:∀b u,b≠e->h.get? b=some u->h'.get? b=some u)(HG:∃u,h'.get? e=some u):Un fs ex H (upd H x o) h h':=by
 have hx:∀b,H b=none->b≠x:=λb n z=>by subst z;rw[n]at mu;exact mu
 have hb:∀b,H b=none->b≠e:=λb n z=>by
  subst z;rcases he with r | r
  .exact hx b n r
  .rw[n]at r;cases r
 have hm:∀b u,H b=some u->¬KB (some u)->b≠x:=λb u q nm z=>by subst z;rw[q]at mu;exact nm mu
 refine⟨λb u q n _ _=>k b u (hb b n) q,λb u q n _ _=>⟨u.slots,k b u (hb b n) q⟩,λb u q n _=>by rw[aH (hx b n)];exact n,λb u q _=>?_,
  λb xs q=>by rw[aH (hm b _ q λz=>z)];exact q,λb u xs q=>by rw[aH (hm b _ q λz=>z)];exact q,λb ps q=>by rw[aH (hm b _ q λz=>z)];exact q⟩
 by_cases hbe:b=e
 .subst hbe;exact HG
 .exact⟨u,k b u hbe q⟩
end
def Kz(h:SH)(H:Hp):Sv:=(List.range h.objs.size).filter λa=>(H a).isSome
def qe(h:SH)(H:Hp):SH:=PySem.W.hideAll h (Kz h H)
theorem wO(h:SH)(H:Hp):(qe h H).objs.size=h.objs.size:=PySem.W.hideAll_size _ _
theorem z6{h:SH}{H:Hp}{b:SM}{o:Obj}(e:h.get? b=some o)(n:H b=none):(qe h H).get? b=some o:=
 PySem.W.hideAll_get _ e λhm=>by
  have q:(H b).isSome=true:=(OU.mp hm).2;rw[n]at q;simp at q
theorem Dz{h:SH}{H:Hp}{b:SM}{o:Obj}(e:(qe h H).get? b=some o):h.get? b=some o/\H b=none:=by
 have e':h.get? b=some o:=PySem.W.of_hideAll (Kz h H) e;refine⟨e',?_⟩;cases q:H b with
 | none=>rfl
 | some x=>
  have hm:b∈Kz h H:=OU.mpr ⟨Ov.mpr (r_ e'),by simp[q]⟩;have z:(qe h H).get? b=none:=PySem.W.hideAll_none (Kz h H) hm;rw[z]at e;cases e
def Dn(g h:SH)(L:SM):Sk:=(List.range h.objs.size).filterMap λa=>if a=L\/(g.get? a).isSome=true then none else(h.get? a).map λo=>(a,o)
def rest(g h:SH)(L d:SM):Sk:=(Dn g h L).filter λp=>decide (p.1≠d)
def FS:Su:=["best_in","best_shown"]
def tq(K:SB)(P:SM):Option Str:=FS.findSome? λx=>(PySem.W.tabIn K x).bind λp=>if p.2=P then some (x++".<locals>."++"<lambda>")else none
structure Mod(K:PySem.W.Frag)(mg:Str->Option Value)(base:Heap):Prop where
 kin:K.In base
 glob:base.Ns mainGlobals mg
 blt:∃mb,base.Ns builtinsNs mb/\∀x:Str,x≠"__name__"->mb x=bootBuiltins x
 nolimit:base.NoLimit
 bmod:∃bm o,mg "__builtins__"=some (.ref bm)/\bm≠builtinsNs/\bm≠mainGlobals/\base.get? bm=some o/\o.cls=.type "module"/\o.dict=some builtinsNs/\o.data=.plain
structure Cx where
 prog:Program
 w:World
 K:PySem.W.Frag
 mg:Str->Option Value
 base:Heap
 A:Around
 N:List Str
 s₀:Shared
 H₀:Hp
 env:Env
 outer:List Env
 stack:List Env
 ex:List Addr
 fn:Str->Bool
 calm:Bool
 pn:List (Addr×Obj)
 xe:Value->Shared->Prop
def sY(l:List Env):Sv:=l.filterMap (·.frame)
abbrev Cx.fs(X:Cx):Sv:=sY X.outer
def wX(sc:SL)(x:Str):Prop:=sc.names.lookup x=some .local\/sc.names.lookup x=some .cell\/sc.names.lookup x=some .free
def Loc(sc:SL)(x:Str):Prop:=sc.names.lookup x=some .local\/sc.names.lookup x=some .cell
def Look(env:Env)(h:SH)(m:Sm)(x:Str)(u:SC):Prop:=
 (env.kindOf x=some .local/\m x=some u)\/((env.kindOf x=some .cell\/env.kindOf x=some .free)/\∃c,env.cells.lookup x=some c/\h.IsCell c (some u))
structure Cx.Ok(X:Cx):Prop where
 mod:Mod X.K X.mg X.base
 kind:X.env.scope.kind=.function
 glob:X.env.globals=mainGlobals
 blt:X.env.builtins=builtinsNs
 above:X.s₀.heap.objs.size<=X.env.locals
 inj:∀x y c,X.env.cells.lookup x=some c->X.env.cells.lookup y=some c->x=y
 has:∀x,(X.env.kindOf x=some .cell\/X.env.kindOf x=some .free)->∃c,X.env.cells.lookup x=some c
 cab:∀x c,X.fn x=true->X.env.cells.lookup x=some c->X.s₀.heap.objs.size<=c
 hd:X.calm=true->X.A.handled=none
 frames:X.A.frames=some X.stack
 stk:X.stack=X.outer\/(X.stack=X.env::X.outer/\X.env.frame=some X.env.locals)
 exf:∀b∈X.ex,b≠X.env.locals/\∀x c,X.env.cells.lookup x=some c->c≠b
 bs:∀b o,X.base.get? b=some o->X.s₀.heap.get? b=some o/\X.H₀ b=none
 bsz:X.base.objs.size<=X.s₀.heap.objs.size
 noex:∀b o,X.base.get? b=some o->b∉X.ex
 exfs:∀b∈X.ex,b∉X.fs
 funs:X.s₀.heap.FunFrames X.base X.outer
 frf:∀b∈X.fs,X.H₀ b=none
 tb:∀P q,tq X.K P=some q->X.H₀ P=some (.tab q)
structure Inv(X:Cx)(pins:List (Addr×Obj))(σ:List (Option V))(H:Hp)(s:Shared):Prop where
 ok:X.Ok
 os:s.os=X.s₀.os
 bare:AllBare s.gens
 base:Un X.fs X.ex X.H₀ H X.s₀.heap s.heap
 loc:∃m,s.heap.Ns X.env.locals m/\∀(i:Nat)(x:Str)(v:V),X.N[i]?=some x->σ[i]?=some (some v)->wX X.env.scope x->∃u,RelV v u/\Look X.env s.heap m x u
 cell:∀x c,X.env.cells.lookup x=some c->∃v,s.heap.IsCell c v
 free:H X.env.locals=none
 freeC:∀x c,X.env.cells.lookup x=some c->H c=none
 pin:∀p∈X.pn++pins,s.heap.get? p.1=some p.2/\H p.1=none/\p.1≠X.env.locals/\p.1∉X.fs/\∀v,p.2.data≠.cell v
 hok:mw X.prog X.w H s.heap
 len:σ.length=X.N.length
section
variable {X:Cx}{pins:Sk}{σ:List (Option V)}{H H':Hp}{s:SE}{h':SH}
theorem Cx.Ok.nofr(ok:X.Ok){b:SM}{o:Obj}(e:X.base.get? b=some o):b∉X.fs:=λhb=>by
 have:=(ok.funs.mem hb).1;rw[e]at this;cases this
theorem Inv.bs(I:Inv X pins σ H s):∀b o,X.base.get? b=some o->s.heap.get? b=some o/\H b=none:=λb o e=>
 ⟨I.base.keep b o (I.ok.bs b o e).1 (I.ok.bs b o e).2 (I.ok.nofr e) (I.ok.noex b o e),I.base.free b o (I.ok.bs b o e).1 (I.ok.bs b o e).2 (I.ok.noex b o e)⟩
theorem Inv.bk(I:Inv X pins σ H s):∀b o,X.base.get? b=some o->s.heap.get? b=some o:=λb o e=>(I.bs b o e).1
theorem Inv.tb(I:Inv X pins σ H s):∀P q,tq X.K P=some q->H P=some (.tab q):=λP q e=>I.base.tbls P q (I.ok.tb P q e)
theorem Inv.mod(I:Inv X pins σ H s):Mod X.K X.mg X.base:=I.ok.mod
theorem Inv.kIn(I:Inv X pins σ H s):X.K.In s.heap:=I.ok.mod.kin.keeps I.bk
theorem Inv.nolimit(I:Inv X pins σ H s):s.heap.NoLimit:=I.ok.mod.nolimit.keeps I.bk
theorem Inv.lt(I:Inv X pins σ H s):X.env.locals<s.heap.objs.size:=let ⟨_,hn,_⟩:=I.loc;hn.lt
theorem Inv.sz(I:Inv X pins σ H s):X.s₀.heap.objs.size<=s.heap.objs.size:=C_ I.ok.above (Pl I.lt)
theorem Inv.nofs(I:Inv X pins σ H s){a:SM}(h:s.heap.objs.size<=a):a∉X.fs:=λhb=>by
 obtain⟨_,o,ho,_⟩:=I.ok.funs.mem hb;exact absurd (E_ (r_ ho) (C_ I.sz h)) (Qf _)
theorem Inv.cne(I:Inv X pins σ H s):∀x c,X.env.cells.lookup x=some c->c≠X.env.locals:=λx c e z=>by
 obtain⟨v,o,ho,hd⟩:=I.cell x c e;obtain⟨m,⟨o',es,ep,ho',JU,_⟩,_⟩:=I.loc;rw[z,ho']at ho;cases ho;rw[JU]at hd;cases hd
theorem Inv.funs(I:Inv X pins σ H s):s.heap.FunFrames X.base X.outer:=by
 have all:∀(l:List Env),(∀b∈sY l,b∈X.fs)->X.s₀.heap.FunFrames X.base l->s.heap.FunFrames X.base l:=by
  intro l
  induction l with
  | nil=>intro _ _;trivial
  | cons env r ih=>
   intro hs hl;obtain⟨hk,⟨L,o,hf,hn,ho,hd⟩,hr⟩:=hl;have hL:L∈X.fs:=hs L (by unfold sY;rw[OK,hf];exact j_);obtain⟨sl,e⟩:=I.base.slot L o ho (I.ok.frf L hL) hL λz=>I.ok.exfs L z hL;exact⟨hk,⟨L,_,hf,hn,e,hd⟩,ih (λb hb=>hs b (by unfold sY;rw[OK,hf];exact i_ _ hb)) hr⟩
 exact all X.outer (λ_ hb=>hb) I.ok.funs
theorem Inv.stack(I:Inv X pins σ H s):s.heap.FunFrames X.base X.stack:=by
 rcases I.ok.stk with e | ⟨e,hf⟩
 .rw[e];exact I.funs
 .rw[e];obtain⟨m,hn,_⟩:=I.loc;refine .cons (by rw[I.ok.kind];decide) hf hn ?_ I.funs;exact Heap.get?_none_of_le (C_ I.ok.bsz I.ok.above)
theorem Inv.stkSub(I:Inv X pins σ H s):∀b∈sY X.stack,b∈X.env.locals::X.fs:=λb hb=>by
 rcases I.ok.stk with e | ⟨e,hf⟩
 .rw[e]at hb;exact i_ _ hb
 .rw[e]at hb;unfold sY at hb;rw[OK,hf]at hb;exact hb
theorem Inv.stkFree(I:Inv X pins σ H s):∀b∈sY X.stack,H b=none:=λb hb=>by
 rcases s_.mp (I.stkSub b hb)with e | hb
 .rw[e];exact I.free
 .obtain⟨_,o,ho,_⟩:=I.ok.funs.mem hb;exact I.base.free b o ho (I.ok.frf b hb) λz=>I.ok.exfs b z hb
theorem Inv.step{g':Array GenState}{t':Nat}{d':Drawn}{ch:Sv}(I:Inv X pins σ H s)
  (hch:∀b∈ch,(b∈X.ex\/X.s₀.heap.objs.size<=b)/\b≠X.env.locals/\(∀x c,X.env.cells.lookup x=some c->c≠b)/\∀p∈X.pn++pins,p.1≠b)
  (keep:∀b o,b≠X.env.locals->b∉X.fs->b∉ch->s.heap.get? b=some o->H b=none->h'.get? b=some o)
  (slot:∀b o,b≠X.env.locals->b∈X.fs->b∉ch->s.heap.get? b=some o->H b=none->∃sl,h'.get? b=some {o with slots:=sl}) (free:∀b o,b∉ch->s.heap.get? b=some o->H b=none->H' b=none)
  (there:∀b o,b∉ch->s.heap.get? b=some o->∃o',h'.get? b=some o')
  (tups:∀b xs,H b=some (.tup xs)->H' b=some (.tup xs)) (frzs:∀b o u,H b=some (.frz o u)->H' b=some (.frz o u)) (tbls:∀b q,H b=some (.tab q)->H' b=some (.tab q))
  (ns:∀m,s.heap.Ns X.env.locals m->h'.Ns X.env.locals m) (hok:mw X.prog X.w H' h') (hg:AllBare g') :
  Inv X pins σ H' {s with heap:=h',gens:=g',drawn:=d',toks:=t'}:=by
 have Nw:∀b o,X.s₀.heap.get? b=some o->b≠X.env.locals:=λb o e=>y_ (E_ (r_ e) I.ok.above);have KN:∀b o,X.s₀.heap.get? b=some o->b∉X.ex->b∉ch:=λb o e hx hb=>by
  rcases(hch b hb).1 with z | z
  .exact hx z
  .exact absurd (E_ (r_ e) z) (Qf _)
 have cellK:∀x c,X.env.cells.lookup x=some c->∀v,s.heap.IsCell c v->h'.IsCell c v:=λx c e v ⟨o,ho,hd⟩=>by
  have JV:c∉ch:=λz=>(hch c z).2.2.1 x c e rfl
  by_cases hc:c∈X.fs
  .obtain⟨sl,q⟩:=slot c o (I.cne x c e) hc JV ho (I.freeC x c e);exact⟨_,q,hd⟩
  .exact⟨o,keep c o (I.cne x c e) hc JV ho (I.freeC x c e),hd⟩
 refine⟨I.ok,I.os,hg,⟨λb o e n hb hx=>?_,λb o e n hb hx=>?_,λb o e n hx=>?_,λb o e hx=>?_,λb xs e=>tups b xs (I.base.tups b xs e),λb o xs e=>frzs b o xs (I.base.frzs b o xs e),λb ps e=>?_⟩,?_,λx c e=>?_,?_,λx c e=>?_,λp hp=>?_,hok,I.len⟩
 .exact keep b o (Nw b o e) hb (KN b o e hx) (I.base.keep b o e n hb hx) (I.base.free b o e n hx)
 .obtain⟨sl,e1⟩:=I.base.slot b o e n hb hx;obtain⟨Ml,e2⟩:=slot b _ (Nw b o e) hb (KN b o e hx) e1 (I.base.free b o e n hx);exact⟨Ml,e2⟩
 .obtain⟨o',e1⟩:=I.base.there b o e hx;exact free b o' (KN b o e hx) e1 (I.base.free b o e n hx)
 .obtain⟨o',e1⟩:=I.base.there b o e hx;exact there b o' (KN b o e hx) e1
 .exact tbls b _ (I.base.tbls b ps e)
 .obtain⟨m,hn,hl⟩:=I.loc;refine⟨m,ns m hn,λi x v e1 e2 e3=>?_⟩;obtain⟨u,r,l⟩:=hl i x v e1 e2 e3;refine⟨u,r,?_⟩;rcases l with l | ⟨k,c,e,z⟩
  .exact .inl l
  .exact .inr ⟨k,c,e,cellK x c e _ z⟩
 .obtain⟨v,z⟩:=I.cell x c e;exact⟨v,cellK x c e v z⟩
 .obtain⟨m,⟨o,_,_,ho,_⟩,_⟩:=I.loc;exact free _ o (λz=>(hch _ z).2.1 rfl) ho I.free
 .obtain⟨v,o,ho,hd⟩:=I.cell x c e;exact free c o (λz=>(hch c z).2.2.1 x c e rfl) ho (I.freeC x c e)
 .obtain⟨e,n,ne,nf,d⟩:=I.pin p hp;have JV:p.1∉ch:=λz=>(hch p.1 z).2.2.2 p hp rfl;exact⟨keep p.1 p.2 ne nf JV e n,free p.1 p.2 JV e n,ne,nf,d⟩
theorem Inv.un{t':Nat}(I:Inv X pins σ H s)(u:Un X.fs [] H H' s.heap h')(hok:mw X.prog X.w H' h'):Inv X pins σ H' {s with heap:=h',toks:=t'}:=by
 obtain⟨m,⟨o,es,ep,ho,r⟩,_⟩:=id I.loc;obtain⟨sl,hL⟩:=u.any ho I.free (by simp);exact I.step (g':=s.gens) (d':=s.drawn) (ch:=[]) (λ_ z=>nomatch z) (λb o _ hb _ e n=>u.keep b o e n hb (by simp)) (λb o _ hb _ e n=>u.slot b o e n hb (by simp)) (λb o _ e n=>u.free b o e n (by simp)) (λb o _ e=>u.there b o e (by simp)) u.tups u.frzs u.tbls (λm' hm=>by
  obtain⟨o',es',JQ,ho',r'⟩:=hm;rw[ho]at ho';cases ho';exact⟨_,es',JQ,hL,r'⟩) hok I.bare
theorem Inv.call{g':Array GenState}{t':Nat}{d':Drawn}{ch:Sv}(I:Inv X pins σ H s)(u:Un (sY X.stack) ch H H' s.heap h')(hok:mw X.prog X.w H' h')(hg:AllBare g')
  (hch:∀b∈ch,(b∈X.ex\/X.s₀.heap.objs.size<=b)/\b≠X.env.locals/\(∀x c,X.env.cells.lookup x=some c->c≠b)/\∀p∈X.pn++pins,p.1≠b) :
  Inv X pins σ H' {s with heap:=h',gens:=g',drawn:=d',toks:=t'}:=by
 obtain⟨m,⟨o,es,ep,ho,r⟩,_⟩:=id I.loc;obtain⟨sl,hL⟩:=u.any ho I.free λz=>(hch _ z).2.1 rfl;exact I.step (ch:=ch) hch (λb o hL hb hc e n=>u.keep b o e n (λz=>(s_.mp (I.stkSub b z)).elim hL hb) hc) (λb o _ _ hc e n=>u.any e n hc) (λb o hc e n=>u.free b o e n hc) (λb o hc e=>u.there b o e hc) u.tups u.frzs u.tbls (λm' hm=>by
  obtain⟨o',es',JQ,ho',r'⟩:=hm;rw[ho]at ho';cases ho';exact⟨_,es',JQ,hL,r'⟩) hok hg
theorem Inv.turned{t':Nat}{it:SM}(I:Inv X pins σ H s)(k:∀b o,b≠it->s.heap.get? b=some o->h'.get? b=some o)(hn:H it=none)(hL:it≠X.env.locals)
  (h1:it∈X.ex\/X.s₀.heap.objs.size<=it) (h2:∀x c,X.env.cells.lookup x=some c->c≠it) (h3:∀p∈X.pn++pins,p.1≠it):Inv X pins σ H {s with heap:=h',toks:=t'}:=by
 have JW:∀b u,H b=some u->b≠it:=λb u e z=>by rw[z,hn]at e;cases e
 refine I.step (g':=s.gens) (d':=s.drawn) (ch:=[it]) (λb hb=>?_) (λb o _ _ hc e _=>k b o (λz=>hc (by simp[z])) e) (λb o _ _ hc e _=>⟨o.slots,k b o (λz=>hc (by simp[z])) e⟩) (λ_ _ _ _ n=>n)
  (λb o hc e=>⟨o,k b o (λz=>hc (by simp[z])) e⟩) (λ_ _ e=>e) (λ_ _ _ e=>e) (λ_ _ e=>e) (λm hm=>?_) (λb u e=>?_) I.bare
 .have e:b=it:=by simpa using hb
  subst e;exact⟨h1,hL,h2,h3⟩
 .obtain⟨o,es,ep,ho,r⟩:=hm;exact⟨o,es,ep,k _ o (Pw hL) ho,r⟩
 .refine(I.hok b u e).stay (λc v hc q=>k c v ?_ q) (λ_ q=>q) (λ_ _ q=>q) λ_ _ q=>q;rcases hc with z | z
  .rw[z];exact JW b u e
  .exact JW c _ z
theorem Inv.tok(I:Inv X pins σ H s)(t:Nat):Inv X pins σ H {s with toks:=t}:=I.un (h':=s.heap) (t':=t) Un.refl I.hok
theorem Inv.kept{t':Nat}(I:Inv X pins σ H s)(k:∀b u,s.heap.get? b=some u->h'.get? b=some u):Inv X pins σ H {s with heap:=h',toks:=t'}:=I.un (Un.kept k) (I.hok.kept k)
theorem Inv.laid{a:SM}{o:HO}{t':Nat}(I:Inv X pins σ H s)(k:∀b u,s.heap.get? b=some u->h'.get? b=some u)(hp:s.heap.objs.size<=a)(new:bp X.prog X.w (upd H a o) h' a o) :
  Inv X pins σ (upd H a o) {s with heap:=h',toks:=t'}:=I.un (Un.laid k hp (I.hok.fresh hp)) (I.hok.laid k hp new)
theorem Inv.write{x e:SM}{o:HO}{t':Nat}(I:Inv X pins σ H s)(mu:KB (H x))(he:e=x\/H e=some (.own x))(k:∀b u,b≠e->s.heap.get? b=some u->h'.get? b=some u)(HG:∃u,h'.get? e=some u)
  (new:bp X.prog X.w (upd H x o) h' x o):Inv X pins σ (upd H x o) {s with heap:=h',toks:=t'}:=I.un (Un.write mu he k HG) (I.hok.write mu he k HG new)
theorem Inv.pins_of{AZ:Sk}(I:Inv X pins σ H s)(h:∀p∈AZ,s.heap.get? p.1=some p.2/\H p.1=none/\p.1≠X.env.locals/\p.1∉X.fs/\∀v,p.2.data≠.cell v):Inv X AZ σ H s:=
 ⟨I.ok,I.os,I.bare,I.base,I.loc,I.cell,I.free,I.freeC,λp hp=>(Oz.mp hp).elim (λz=>I.pin p (Rg _ z)) (h p),I.hok,I.len⟩
theorem qR{N:Su}(hN:N.Nodup){i j:Nat}{x:Str}(a:N[i]?=some x)(b:N[j]?=some x):i=j:=by
 obtain⟨h1,e1⟩:=o_.mp a;obtain⟨h2,e2⟩:=o_.mp b;exact(List.getElem_inj hN).mp (e1.trans e2.symm)
theorem ou{M:Model}{A:SG}{E:Sj}{i:Nat}{x:Str}{v:V}{u:SC}{Q:Unit->SE->Prop}(I:Inv X pins σ H s)(hN:X.N.Nodup)(hi:X.N[i]?=some x)(hx:Loc X.env.scope x)(r:RelV v u)
  (h:∀s',Inv X pins (σ.set i (some v)) H s'->(∃a,Heap.SameBut a s.heap s'.heap/\(a=X.env.locals\/X.env.cells.lookup x=some a))->Q () s') (hf:X.fn x=true\/X.env.scope.names.lookup x=some .local:=by first | exact .inl rfl | exact .inr rfl | assumption):wpAny M A (storeName X.env x u) Q E s:=by
 obtain⟨m,hn,hl⟩:=id I.loc;have hcls:(X.env.scope.kind==.class||(X.env.scope.kind==.module&&X.env.locals != X.env.globals))=false:=by rw[I.ok.kind];rfl
 have Nx:i < σ.length:=by rw[I.len];exact(o_.mp hi).1
 have cne:=I.cne;have tracked:∀{a:SM}{h':SH},(∃o,s.heap.get? a=some o/\H a=none)->Heap.SameBut a s.heap h'->mw X.prog X.w H h':=λ{a h'} ha hs b ob e=>by
  obtain⟨_,_,EA⟩:=ha;refine(I.hok b ob e).stay (λc w' hc q=>(hs.2 c ?_).trans q) (λ_ q=>q) (λ_ _ q=>q) λ_ _ q=>q;rintro rfl;rcases hc with rfl | hc
  .rw[EA]at e;cases e
  .rw[EA]at hc;cases hc
 rcases hx with hk | hk
 .refine wpAny_storeName_local hk hn (λh' hn' hs=>?_) hcls;obtain⟨oL,_,_,hoL,_⟩:=id hn;refine h _ ⟨I.ok,I.os,I.bare,⟨λb o e n hb hx=>?_,λb o e n hb hx=>?_,I.base.free,λb o e hx=>?_,I.base.tups,I.base.frzs,I.base.tbls⟩,⟨_,hn',λj y v' e1 e2 e3=>?_⟩,λy c e=>?_,I.free,I.freeC,λp hp=>?_,tracked ⟨oL,hoL,I.free⟩ hs,by simpa using I.len⟩ ⟨_,hs,.inl rfl⟩
  .exact(hs.2 b (y_ (E_ (r_ e) I.ok.above))).trans (I.base.keep b o e n hb hx)
  .obtain⟨sl,e1⟩:=I.base.slot b o e n hb hx;exact⟨sl,(hs.2 b (y_ (E_ (r_ e) I.ok.above))).trans e1⟩
  .obtain⟨o',e1⟩:=I.base.there b o e hx;exact⟨o',(hs.2 b (y_ (E_ (r_ e) I.ok.above))).trans e1⟩
  .by_cases hj:j=i
   .subst hj;rw[hi]at e1;cases e1;rw[D_ Nx]at e2;cases e2;exact⟨u,r,.inl ⟨hk,by simp⟩⟩
   .rw[q_ (Pw hj)]at e2;obtain⟨u',r',q⟩:=hl j y v' e1 e2 e3;refine⟨u',r',?_⟩;rcases q with ⟨k,e⟩ | ⟨k,c,e,z⟩
    .refine .inl ⟨k,?_⟩;have:y≠x:=λe=>hj (qR hN e1 (e▸hi));simp[this,e]
    .exact .inr ⟨k,c,e,z.sameBut hs (cne y c e)⟩
  .obtain⟨w',z⟩:=I.cell y c e;exact⟨w',z.sameBut hs (cne y c e)⟩
  .obtain⟨e,n,ne,nf,d⟩:=I.pin p hp;exact⟨(hs.2 p.1 ne).trans e,n,ne,nf,d⟩
 .have KO:X.fn x=true:=by
   rcases hf with z | z
   .exact z
   .rw[z]at hk;cases hk
  obtain⟨c,hc⟩:=I.ok.has x (.inl hk);obtain⟨w',z⟩:=I.cell x c hc;refine wpAny_storeName_cell I.ok.kind hk hc z (λh' hc' hs=>?_);obtain⟨oc,DC,hocd⟩:=id z;refine h {s with heap:=h'} ⟨I.ok,I.os,I.bare,⟨λb o e n hb hx=>?_,λb o e n hb hx=>?_,I.base.free,λb o e hx=>?_,I.base.tups,I.base.frzs,I.base.tbls⟩,⟨m,hn.sameBut hs (Pw (cne x c hc)),λj y v' e1 e2 e3=>?_⟩,λy c' e=>?_,I.free,I.freeC,λp hp=>?_,tracked ⟨oc,DC,I.freeC x c hc⟩ hs,by simpa using I.len⟩ ⟨c,hs,.inr hc⟩
  .exact(hs.2 b (y_ (E_ (r_ e) (I.ok.cab x c KO hc)))).trans (I.base.keep b o e n hb hx)
  .obtain⟨sl,e1⟩:=I.base.slot b o e n hb hx;exact⟨sl,(hs.2 b (y_ (E_ (r_ e) (I.ok.cab x c KO hc)))).trans e1⟩
  .obtain⟨o',e1⟩:=I.base.there b o e hx;exact⟨o',(hs.2 b (y_ (E_ (r_ e) (I.ok.cab x c KO hc)))).trans e1⟩
  .by_cases hj:j=i
   .subst hj;rw[hi]at e1;cases e1;rw[D_ Nx]at e2;cases e2;exact⟨u,r,.inr ⟨.inl hk,c,hc,hc'⟩⟩
   .rw[q_ (Pw hj)]at e2;obtain⟨u',r',q⟩:=hl j y v' e1 e2 e3;refine⟨u',r',?_⟩;rcases q with q | ⟨k,c',e,z'⟩
    .exact .inl q
    .refine .inr ⟨k,c',e,z'.sameBut hs ?_⟩;rintro rfl;exact hj (qR hN e1 (I.ok.inj _ _ _ e hc▸hi))
  .by_cases Bn:c'=c
   .subst Bn;exact⟨_,hc'⟩
   .obtain⟨w2,z2⟩:=I.cell y c' e;exact⟨w2,z2.sameBut hs Bn⟩
  .obtain⟨e,n,ne,nf,d⟩:=I.pin p hp;refine⟨(hs.2 p.1 ?_).trans e,n,ne,nf,d⟩;intro q;rw[q,DC]at e;have q':oc=p.2:=Option.some.inj e;exact d w' (by rw[<- q'];exact hocd)
theorem mG{M:Model}{A:SG}{E:Sj}{i:Nat}{x:Str}{v:V}{u:SC}{Q:Unit->SE->Prop}(I:Inv X pins σ H s)(hN:X.N.Nodup)(hi:X.N[i]?=some x)(hx:Loc X.env.scope x)(r:RelV v u)
  (h:∀s',Inv X pins (σ.set i (some v)) H s'->Q () s') (hf:X.fn x=true\/X.env.scope.names.lookup x=some .local:=by first | exact .inl rfl | exact .inr rfl | assumption):wpAny M A (storeName X.env x u) Q E s:=
 ou I hN hi hx r (λs' I' _=>h s' I') hf
theorem Inv.call'{s':SE}{ch:Sv}(I:Inv X pins σ H s)(ho:s'.os=s.os)(u:Un (sY X.stack) ch H H' s.heap s'.heap)(hok:mw X.prog X.w H' s'.heap)(hg:AllBare s'.gens)
  (hch:∀b∈ch,(b∈X.ex\/X.s₀.heap.objs.size<=b)/\b≠X.env.locals/\(∀x c,X.env.cells.lookup x=some c->c≠b)/\∀p∈X.pn++pins,p.1≠b):Inv X pins σ H' s':=by
 obtain⟨h',g',d',t',o'⟩:=s';have e:o'=s.os:=ho;subst e;exact I.call (g':=g') (t':=t') (d':=d') u hok hg hch
end
abbrev XK:=SC->Ss->Hp->Prop
abbrev St:=List (Option V)
abbrev VK:=V->Hp->Prop
abbrev TE:=St->Hp->VK->Prop
abbrev TT:=St->Hp->(Bool->Hp->Prop)->Prop
abbrev TA:=St->Hp->(SX->Hp->Prop)->Prop
structure Ends where
 nx:St->Hp->Prop
 rt:VK
 bk:St->Hp->Prop:=λ_ _=>False
 ct:St->Hp->Prop:=λ_ _=>False
abbrev TS:=Ends->St->Hp->Prop
def EP(X:Cx)(pins:Sk)(σ:St)(Q:VK)(u:SC)(s':SE):Prop:=∃v H',Inv X pins σ H' s'/\RelV v u/\Q v H'
def TP(X:Cx)(pins:Sk)(σ:St)(Q:Bool->Hp->Prop)(b:Bool)(s':SE):Prop:=∃H',Inv X pins σ H' s'/\Q b H'
def AP(X:Cx)(pins:Sk)(σ:St)(Q:SX->Hp->Prop)(us:Sr)(s':SE):Prop:=∃vs H',Inv X pins σ H' s'/\av vs us/\Q vs H'
def SP(X:Cx)(pins:Sk)(D:Ends)(f:Flow)(s':SE):Prop:=
 match f with
 | .next=>∃σ' H',Inv X pins σ' H' s'/\D.nx σ' H'
 | .brk=>∃σ' H',Inv X pins σ' H' s'/\D.bk σ' H'
 | .cont=>∃σ' H',Inv X pins σ' H' s'/\D.ct σ' H'
 | .ret u=>∃v σ' H',Inv X pins σ' H' s'/\RelV v u/\D.rt v H'
def PE(X:Cx)(e:SN)(t:TE):Prop:=
 ∀(pins:Sk)(s:SE)(σ:St)(H:Hp)(Q:VK),Inv X pins σ H s->t σ H Q->wpAny (model X.prog X.w) X.A (eval e X.env) (EP X pins σ Q) X.xe s
def PT(X:Cx)(e:SN)(t:TT):Prop:=
 ∀(pins:Sk)(s:SE)(σ:St)(H:Hp)(Q:Bool->Hp->Prop),Inv X pins σ H s->t σ H Q->wpAny (model X.prog X.w) X.A (isTrue e X.env (eval e X.env)) (TP X pins σ Q) X.xe s
def PW(X:Cx)(e:SN)(t:TT):Prop:=
 ∀(whole:Sem SC)(pins:Sk)(s:SE)(σ:St)(H:Hp)(Q:Bool->Hp->Prop),Inv X pins σ H s->t σ H Q->wpAny (model X.prog X.w) X.A (isTrue e X.env whole) (TP X pins σ Q) X.xe s
theorem PW.pt{X:Cx}{e:SN}{t:TT}(h:PW X e t):PT X e t:=h _
def PA(X:Cx)(es:Sw)(t:TA):Prop:=
 ∀(pos:Pos)(pins:Sk)(s:SE)(σ:St)(H:Hp)(Q:SX->Hp->Prop),Inv X pins σ H s->t σ H Q->wpAny (model X.prog X.w) X.A (spliced (backTo pos (starEach es X.env))) (AP X pins σ Q) X.xe s
def PS(X:Cx)(st:SO)(t:TS):Prop:=
 ∀(pins:Sk)(s:SE)(σ:St)(H:Hp)(D:Ends),Inv X pins σ H s->t D σ H->wpAny (model X.prog X.w) X.A (exec st X.env) (SP X pins D) X.xe s
def nJ(X:Cx)(st:Sx)(t:TS):Prop:=
 ∀(pins:Sk)(s:SE)(σ:St)(H:Hp)(D:Ends),Inv X pins σ H s->t D σ H->wpAny (model X.prog X.w) X.A (execs st X.env) (SP X pins D) X.xe s
theorem br{α:Type}{t:Sem α}{Q Q':α->SE->Prop}{M:Model}{A:SG}{E:Sj}{s:SE}(h:wpAny M A t Q E s)(hQ:∀a s,Q a s->Q' a s):wpAny M A t Q' E s:=OX h hQ λ_ _ x=>x
section
variable {X:Cx}
def L4(i:Nat):TE:=λσ H Q=>∃v,σ[i]?=some (some v)/\Q v H
def tC(v:V):TE:=λ_ H Q=>Q v H
theorem eO{i:Nat}{x:Str}{pos:Pos}(hN:X.N[i]?=some x)(hv:wX X.env.scope x)(hd:(x==("__debug__":Str))=false:=by decide)(iP:(x==("__classdict__":Str))=false:=by decide):PE X (.Name x pos) (L4 i):=by
 intro pins s σ H Q I h;obtain⟨v,e,h⟩:=h;obtain⟨m,hn,hl⟩:=I.loc;obtain⟨u,r,l⟩:=hl i x v hN e hv;have fin:EP X pins σ Q u s:=⟨v,H,I,r,h⟩;rcases l with ⟨hk,hm⟩ | ⟨hk,c,hc,wo⟩
 .exact wpAny_Name (wpAny_loadName_local I.ok.kind hk hn hm fin) hd
 .rcases hk with hk | hk
  .exact wpAny_Name (wpAny_loadName_cell I.ok.kind hk hc wo fin) hd
  .exact wpAny_Name (wpAny_loadName_free I.ok.kind hk hc wo fin iP) hd
theorem AI{i j pos}:PE X (.Constant (.int i) j pos) (tC (.int i)):=λ_ _ _ H _ I h=>wpAny_Constant_int ⟨.int i,H,I.tok _,⟨_,rfl⟩,h⟩
theorem JA{b j pos}:PE X (.Constant (.bool b) j pos) (tC (.bl b)):=λ_ _ _ H _ I h=>Constant_bool ⟨.bl b,H,I,rfl,h⟩
theorem E8{x j pos}:PE X (.Constant (.str x) j pos) (tC (.str x)):=λ_ _ _ H _ I h=>Calls.Constant_str ⟨.str x,H,I.tok _,⟨_,rfl⟩,h⟩
def Gl(X:Cx)(x:Str):Prop:=X.env.kindOf x=some .globalImplicit
theorem vD{E:Sj}{pins:Sk}{s:SE}{σ:St}{H:Hp}{x:Str}{u:SC}{pos:Pos}{Q:Sj}(I:Inv X pins σ H s)(hg:Gl X x)(hm:X.mg x=some u)(h:Q u s)
  (hd:(x==("__debug__":Str))=false:=by decide):wpAny (model X.prog X.w) X.A (eval (.Name x pos) X.env) Q E s:=
 Calls.Name_function_global I.ok.kind hg (Calls.loadGlobal_global (by rw[I.ok.glob];exact I.mod.glob.keeps I.bk) hm h) hd
theorem gM{E:Sj}{pins:Sk}{s:SE}{σ:St}{H:Hp}{x:Str}{u:SC}{pos:Pos}{Q:Sj}(I:Inv X pins σ H s)(hg:Gl X x)(hm:X.mg x=none)(hv:bootBuiltins x=some u)(h:Q u s)
  (hn:x≠"__name__":=by decide) (hd:(x==("__debug__":Str))=false:=by decide):wpAny (model X.prog X.w) X.A (eval (.Name x pos) X.env) Q E s:=by
 obtain⟨mb,h1,h2⟩:=I.mod.blt;exact Calls.Name_function_global I.ok.kind hg (Calls.loadGlobal_builtin (by rw[I.ok.glob];exact I.mod.glob.keeps I.bk) hm (by rw[I.ok.blt];exact h1.keeps I.bk) ((h2 x hn).trans hv) h) hd
theorem CF{x:Str}{v:V}{u:SC}{pos:Pos}(hg:Gl X x)(hm:X.mg x=some u)(r:RelV v u)(hd:(x==("__debug__":Str))=false:=by decide):PE X (.Name x pos) (tC v):=
 λ_ _ _ H _ I h=>vD I hg hm ⟨v,H,I,r,h⟩ hd
theorem Dg{x:Str}{v:V}{u:SC}{pos:Pos}(hg:Gl X x)(hm:X.mg x=none)(hv:bootBuiltins x=some u)(r:RelV v u)(hn:x≠"__name__":=by decide)(hd:(x==("__debug__":Str))=false:=by decide):PE X (.Name x pos) (tC v):=
 λ_ _ _ H _ I h=>gM I hg hm hv ⟨v,H,I,r,h⟩ hn hd
variable {a b:SN}{ta tb:TE}{pos:Pos}
def tB(t:TE):TT:=λσ H Q=>t σ H λx H1=>∃c,x=.bl c/\Q c H1
theorem EI{e:SN}{t:TE}(h:PE X e t)(he:∀whole,isTrue e X.env whole=(do let v <- whole;standAt e.pos;holding [v] (truthy v)):=by intro _;rfl):PT X e (tB t):=by
 intro pins s σ H Q I hw;refine isTrue_plain (br (h pins s σ H _ I hw) λv s1 ⟨x,H1,I1,r1,q1⟩=>?_) (he _);obtain⟨d,rfl,q⟩:=q1;cases r1;exact Pg ⟨H1,I1,q⟩
variable {tA tB':TT}{rest:Sw}
def Lh(t u:TT):TT:=λσ H Q=>t σ H λc H1=>if c=true then u σ H1 Q else Q false H1
def Og(t u:TT):TT:=λσ H Q=>t σ H λc H1=>if c=true then Q true H1 else u σ H1 Q
def LL(t:TT):TT:=λσ H Q=>t σ H λc H1=>Q (!c) H1
theorem BB(ha:PT X a tA):PW X (.BoolOp .And [a] pos) tA:=by
 intro wh pins s σ H Q I h;refine isTrue_and (br (ha pins s σ H Q I h) λc s1 e=>?_);cases c with
 | true=>exact isTrue_and_nil e
 | false=>exact e
theorem EY(ha:PT X a tA):PW X (.BoolOp .Or [a] pos) tA:=by
 intro wh pins s σ H Q I h;refine isTrue_or (br (ha pins s σ H Q I h) λc s1 e=>?_);cases c with
 | false=>exact isTrue_or_nil e
 | true=>exact e
theorem GH(ha:PT X a tA)(hb:PW X (.BoolOp .And (b::rest) pos) tB'):PW X (.BoolOp .And (a::b::rest) pos) (Lh tA tB'):=by
 intro wh pins s σ H Q I h;refine isTrue_and (br (ha pins s σ H _ I h) λc s1 ⟨H1,I1,q1⟩=>?_);cases c with
 | true=>exact hb wh pins s1 σ H1 Q I1 q1
 | false=>exact⟨H1,I1,q1⟩
theorem IA(ha:PT X a tA)(hb:PW X (.BoolOp .Or (b::rest) pos) tB'):PW X (.BoolOp .Or (a::b::rest) pos) (Og tA tB'):=by
 intro wh pins s σ H Q I h;refine isTrue_or (br (ha pins s σ H _ I h) λc s1 ⟨H1,I1,q1⟩=>?_);cases c with
 | true=>exact⟨H1,I1,q1⟩
 | false=>exact hb wh pins s1 σ H1 Q I1 q1
theorem GK(ha:PT X a tA):PT X (.UnaryOp .Not a pos) (LL tA):=by
 intro pins s σ H Q I h;exact isTrue_not (ha pins s σ H (λc H1=>Q (!c) H1) I h)
def LY(ta tb:TE):TE:=λσ H Q=>ta σ H λx H1=>∃c,x=.bl c/\if c=true then Q (.bl true) H1 else tb σ H1 Q
theorem FD{op}{t:TE}(h:PE X a t):PE X (.BoolOp op [a] pos) t:=λpins s σ H Q I hw=>BoolOp_one (h pins s σ H Q I hw)
theorem IH(ha:PE X a ta)(hb:PE X (.BoolOp .Or (b::rest) pos) tb):PE X (.BoolOp .Or (a::b::rest) pos) (LY ta tb):=by
 intro pins s σ H Q I h;refine BoolOp_or (br (ha pins s σ H _ I h) λv s1 ⟨x,H1,I1,r1,q1⟩=>?_);obtain⟨c,rfl,q1⟩:=q1;cases r1;refine Pg ?_;cases c with
 | false=>exact hb pins s1 σ H1 Q I1 q1
 | true=>exact⟨.bl true,H1,I1,rfl,q1⟩
def N8(t:TT)(ta tb:TE):TE:=λσ H Q=>t σ H λc H1=>if c=true then ta σ H1 Q else tb σ H1 Q
theorem AD{c:SN}(hc:PT X c tA)(ha:PE X a ta)(hb:PE X b tb):PE X (.IfExp c a b pos) (N8 tA ta tb):=by
 intro pins s σ H Q I h;refine wpAny_IfExp (br (hc pins s σ H _ I h) λd s1 ⟨H1,I1,q1⟩=>?_);cases d with
 | true=>exact ha pins s1 σ H1 Q I1 q1
 | false=>exact hb pins s1 σ H1 Q I1 q1
end
def cT(K:SB)(H:Hp)(a:SM)(xs:SX):Prop:=
 Rd H a (.lst xs)\/
  ∃(o:Obj)(aX:Array SC)(n:Nat),K.lookup a=some o/\o.cls=.type "list"/\o.dict=none/\o.data=.seq aX n/\aX.size<=sizeLine/\av xs aX.toList
def cH(K:SB)(H:Hp)(a:SM)(xs:SX):Prop:=
 Rd H a (.tup xs)\/
  ∃(o:Obj)(aX:Array SC)(n:Nat),K.lookup a=some o/\o.cls=.type "tuple"/\o.data=.seq aX n/\aX.size<=sizeLine/\av xs aX.toList
def LR:SC->Option V
 | .none=>some .non
 | .bool b=>some (.bl b)
 | .int i _=>some (.int i)
 | .str x _=>some (.str x)
 | .bytes b _=>some (.byt b)
 | .float b _=>some (.flt b)
 | .ref a=>some (.ref a)
 | .type n=>some (.ty n)
 | _=>none
theorem RelV.abs{x:V}{u:SC}(r:RelV x u):LR u=some x:=by
 cases x with
 | non=>cases r;rfl
 | bl _=>cases r;rfl
 | int _=>obtain⟨t,rfl⟩:=r;rfl
 | str _=>obtain⟨t,rfl⟩:=r;rfl
 | byt _=>obtain⟨t,rfl⟩:=r;rfl
 | flt _=>obtain⟨t,rfl⟩:=r;rfl
 | ref _=>cases r;rfl
 | ty _=>cases r;rfl
theorem RelV.inj{x y:V}{u:SC}(r:RelV x u)(q:RelV y u):x=y:=Option.some.inj (r.abs.symm.trans q.abs)
theorem av.inj:∀{xs ys:SX}{us:Sr},av xs us->av ys us->xs=ys
 | _,_,_,.nil,.nil=>rfl
 | _,_,_,.cons r t,.cons r' t'=>by rw[r.inj r',av.inj t t']
section
variable {X:Cx}{pins:Sk}{σ:St}{H:Hp}{s:SE}{a:SM}{xs ys:SX}
theorem cT.of{K:SB}(h:H a=some (.lst xs)):cT K H a xs:=.inl (.inl h)
theorem cH.of{K:SB}(h:H a=some (.tup xs)):cH K H a xs:=.inl (.inl h)
theorem Inv.list(I:Inv X pins σ H s)(h:cT X.K H a xs):∃aX:Sr,av xs aX/\PlainL s.heap a aX.toArray/\xs.length<=sizeLine:=by
 rcases h with h | ⟨o,aX,n,hk,hc,hd,hs,hz,r⟩
 .obtain⟨z,aX,n,r,e⟩:=h.ok I.hok;exact⟨aX,r,⟨_,n,e,rfl,rfl,rfl⟩,z⟩
 .refine⟨aX.toList,r,⟨o,n,I.kIn a o hk,hc,hd,by simpa using hs⟩,?_⟩;have e:=r.length;simp only[OF]at e;omega
theorem Inv.tuple(I:Inv X pins σ H s)(h:cH X.K H a xs):∃aX:Sr,av xs aX/\IsTup s.heap a aX.toArray/\xs.length<=sizeLine:=by
 rcases h with h | ⟨o,aX,n,hk,hc,hs,hz,r⟩
 .obtain⟨z,aX,r,p⟩:=h.ok I.hok;exact⟨aX,r,p,z⟩
 .refine⟨aX.toList,r,⟨o,I.kIn a o hk,hc,n,by simpa using hs⟩,?_⟩;have e:=r.length;simp only[OF]at e;omega
theorem Inv.list_inj(I:Inv X pins σ H s)(h:cT X.K H a xs)(h':cT X.K H a ys):xs=ys:=by
 obtain⟨aX,r,⟨o,n,e,_,_,d⟩,_⟩:=I.list h;obtain⟨its',r',⟨o',n',e',_,_,d'⟩,_⟩:=I.list h';rw[e]at e';cases e';rw[d]at d'
 injection d' with d1 _
 have:aX=its':=by simpa using OZ Array.toList d1
 subst this;exact r.inj r'
theorem Inv.tuple_inj(I:Inv X pins σ H s)(h:cH X.K H a xs)(h':cH X.K H a ys):xs=ys:=by
 obtain⟨aX,r,⟨o,e,_,n,d⟩,_⟩:=I.tuple h;obtain⟨its',r',⟨o',e',_,n',d'⟩,_⟩:=I.tuple h';rw[e]at e';cases e';rw[d]at d'
 injection d' with d1 _
 have:aX=its':=by simpa using OZ Array.toList d1
 subst this;exact r.inj r'
end
abbrev Cx.wish(X:Cx)(E:Sj):Cx:={X with xe:=E}
abbrev Cx.nox(X:Cx):Cx:=X.wish λ_ _=>False
theorem Cx.Ok.wish{X:Cx}(ok:X.Ok)(E:Sj):(X.wish E).Ok:=
 ⟨ok.mod,ok.kind,ok.glob,ok.blt,ok.above,ok.inj,ok.has,ok.cab,ok.hd,ok.frames,ok.stk,ok.exf,ok.bs,ok.bsz,ok.noex,ok.exfs,ok.funs,ok.frf,ok.tb⟩
theorem Cx.Ok.unwish{X:Cx}{E:Sj}(ok:(X.wish E).Ok):X.Ok:=
 ⟨ok.mod,ok.kind,ok.glob,ok.blt,ok.above,ok.inj,ok.has,ok.cab,ok.hd,ok.frames,ok.stk,ok.exf,ok.bs,ok.bsz,ok.noex,ok.exfs,ok.funs,ok.frf,ok.tb⟩
section
variable {X:Cx}{pins:Sk}{σ:St}{H:Hp}{s:SE}{E:Sj}
theorem Inv.wish(I:Inv X pins σ H s)(E:Sj):Inv (X.wish E) pins σ H s:=⟨I.ok.wish E,I.os,I.bare,I.base,I.loc,I.cell,I.free,I.freeC,I.pin,I.hok,I.len⟩
theorem Inv.unwish(I:Inv (X.wish E) pins σ H s):Inv X pins σ H s:=⟨I.ok.unwish,I.os,I.bare,I.base,I.loc,I.cell,I.free,I.freeC,I.pin,I.hok,I.len⟩
theorem SP.unwish{D:Ends}{f:Flow}{s':SE}(h:SP (X.wish E) pins D f s'):SP X pins D f s':=by
 cases f with
 | next=>obtain⟨σ',H',I,q⟩:=h;exact⟨σ',H',I.unwish,q⟩
 | brk=>obtain⟨σ',H',I,q⟩:=h;exact⟨σ',H',I.unwish,q⟩
 | cont=>obtain⟨σ',H',I,q⟩:=h;exact⟨σ',H',I.unwish,q⟩
 | ret u=>obtain⟨v,σ',H',I,r,q⟩:=h;exact⟨v,σ',H',I.unwish,r,q⟩
theorem nJ.nox{st:Sx}{t:TS}(h:nJ X.nox st t):nJ X st t:=λpins s σ H D I hw=>
 OX (h pins s σ H D (I.wish _) hw) (λ_ _ q=>q.unwish) λ_ _ z=>False.elim z
end
section
variable {X:Cx}{st:SO}{rest:Sx}{t u:TS}{e:SN}{te:TE}{pos:Pos}
def tNext:TS:=λD σ H=>D.nx σ H
def LD(t u:TS):TS:=λD σ H=>t {D with nx:=u D} σ H
theorem B0:nJ X [] tNext:=λ_ _ σ H _ I h=>Rm ⟨σ,H,I,h⟩
theorem Aw(h1:PS X st t)(h2:nJ X rest u):nJ X (st::rest) (LD t u):=by
 intro pins s σ H D I h;refine wpAny_execs_cons (br (h1 pins s σ H {D with nx:=u D} I h) λf s1 q=>?_);cases f with
 | next=>
  obtain⟨σ',H',I',q⟩:=q;exact h2 pins s1 σ' H' D I' q
 | ret v=>exact q
 | brk=>exact q
 | cont=>exact q
theorem B5(h1:PS X st t):nJ X [st] t:=by
 intro pins s σ H D I h;refine wpAny_execs_cons (br (h1 pins s σ H D I h) λf s1 q=>?_);cases f with
 | next=>exact Rm q
 | ret v=>exact q
 | brk=>exact q
 | cont=>exact q
theorem Inv.quiet{pins:Sk}{σ:St}{H:Hp}{s:SE}(I:Inv X pins σ H s):interactive X.env=false:=by simp[interactive,I.ok.kind]
def JE(te:TE):TS:=λD σ H=>te σ H λ_ H1=>D.nx σ H1
theorem lg(he:PE X e te)(hs:swapsWith e none pos.line X.env=pure false:=by rfl):PS X (.Expr e pos) (JE te):=by
 intro pins s σ H D I h;exact wpAny_Expr_any (br (he pins s σ H _ I h) λv s1 ⟨x,H1,I1,r1,q1⟩=>⟨σ,H1,I1,q1⟩) I.quiet hs
def LF(te:TE):TS:=λD σ H=>te σ H D.rt
theorem uw(he:PE X e te):PS X (.Return (some e) pos) (LF te):=by
 intro pins s σ H D I h;exact wpAny_Return_some (br (he pins s σ H _ I h) λv s1 ⟨x,H1,I1,r1,q1⟩=>⟨x,σ,H1,I1,r1,q1⟩)
def LB(c:TT)(t u:TS):TS:=λD σ H=>c σ H λb H1=>if b=true then t D σ H1 else u D σ H1
theorem JH{c:SN}{a b:Sx}{tc:TT}(hc:PT X c tc)(ha:nJ X a t)(hb:nJ X b u):PS X (.If c a b pos) (LB tc t u):=by
 intro pins s σ H D I h;refine wpAny_If (br (hc pins s σ H _ I h) λd s1 ⟨H1,I1,q1⟩=>?_);cases d with
 | true=>exact ha pins s1 σ H1 D I1 q1
 | false=>exact hb pins s1 σ H1 D I1 q1
end
abbrev TG:=V->St->Hp->(St->Hp->Prop)->Prop
abbrev TGs:=SX->St->Hp->(St->Hp->Prop)->Prop
def PG(X:Cx)(target:SN)(t:TG):Prop:=
 ∀(pins:Sk)(s:SE)(σ:St)(H:Hp)(v:V)(u:SC)(Q:St->Hp->Prop),Inv X pins σ H s->RelV v u->t v σ H Q->
  wpAny (model X.prog X.w) X.A (assign target X.env u) (λ_ s'=>∃σ' H',Inv X pins σ' H' s'/\Q σ' H') X.xe s
def wz(X:Cx)(ts:Sw)(t:TGs):Prop:=
 ∀(pins:Sk)(s:SE)(σ:St)(H:Hp)(vs:SX)(us:Sr)(Q:St->Hp->Prop),Inv X pins σ H s->av vs us->t vs σ H Q->
  wpAny (model X.prog X.w) X.A (assignInOrder ((assignEach ts X.env).map (·.2)) us) (λ_ s'=>∃σ' H',Inv X pins σ' H' s'/\Q σ' H') X.xe s
abbrev TSet:=V->V->V->Hp->(Hp->Prop)->Prop
def Jj(X:Cx)(t:TSet):Prop:=
 ∀(pins:Sk)(s:SE)(σ:St)(H:Hp)(o i v:V)(ov iv u:SC)(Q:Hp->Prop),Inv X pins σ H s->RelV o ov->RelV i iv->RelV v u->t o i v H Q->
  wpAny (model X.prog X.w) X.A (setItem ov iv u) (λ_ s'=>∃H',Inv X pins σ H' s'/\Q H') X.xe s
abbrev TIp:=V->V->Hp->VK->Prop
def Nq(X:Cx)(op:Operator)(t:TIp):Prop:=
 ∀(pins:Sk)(s:SE)(σ:St)(H:Hp)(x y:V)(v u:SC)(Q:VK),Inv X pins σ H s->RelV x v->RelV y u->t x y H Q->
  wpAny (model X.prog X.w) X.A (inplaceOp op v u) (EP X pins σ Q) X.xe s
section
variable {X:Cx}{pos:Pos}
def rG(i:Nat):TG:=λv σ H Q=>Q (σ.set i (some v)) H
theorem jC{i:Nat}{x:Str}(hN:X.N.Nodup)(hi:X.N[i]?=some x)(hx:Loc X.env.scope x)(hf:X.fn x=true\/X.env.scope.names.lookup x=some .local:=by first | exact .inl rfl | exact .inr rfl | assumption):PG X (.Name x pos) (rG i):=by
 intro pins s σ H v u Q I r h;exact wpAny_assign_Name (mG I hN hi hx r (λs' I'=>⟨_,H,I',h⟩) hf)
def gNil:TGs:=λvs σ H Q=>vs=[]/\Q σ H
def DP(t:TG)(u:TGs):TGs:=λvs σ H Q=>∃v r,vs=v::r/\t v σ H λσ' H'=>u r σ' H' Q
theorem BL:wz X [] gNil:=by
 intro pins s σ H vs us Q I r h;obtain⟨e,h⟩:=h;subst e;cases r;exact assignInOrder_nil ⟨σ,H,I,h⟩
theorem lX{e:SN}{es:Sw}{t:TG}{u:TGs}(h1:PG X e t)(h2:wz X es u)
  (hs:(assignEach (e::es) X.env).map (·.2)=assign e X.env::(assignEach es X.env).map (·.2):=by rfl):wz X (e::es) (DP t u):=by
 intro pins s σ H vs us Q I r h;obtain⟨v,vr,e1,h⟩:=h;subst e1;cases r with
 | cons r rr=>
  rw[hs];refine assignInOrder_cons (br (h1 pins s σ H _ _ _ I r h) λ_ s1 ⟨σ1,H1,I1,q1⟩=>?_);exact h2 pins s1 σ1 H1 _ _ Q I1 rr q1
def L7(K:SB)(n:Nat)(t:TGs):TG:=λv σ H Q=>∃a xs,v=.ref a/\cH K H a xs/\xs.length=n/\t xs σ H Q
theorem Fh{es:Sw}{k:Nat}{t:TGs}{n:Nat}(hc:X.calm=true)(h:wz X es t)
  (hn:(assignEach es X.env).length=n:=by rfl) (hst:(assignEach es X.env).findIdx? (·.1)=none:=by rfl):PG X (.Tuple es k pos) (L7 X.K n t):=by
 intro pins s σ H v u Q I r hw;obtain⟨a,xs,e1,hq,hl,hw⟩:=hw;subst e1;cases r;obtain⟨aX,rv,ht,hz⟩:=I.tuple hq;refine assign_Tuple_tuple (I.ok.hd hc) ht (by simp[hn,<- hl,rv.length]) hst λh' hx=>?_;have I1:Inv X pins σ H {s with heap:=h'}:=I.kept (t':=s.toks) λb o e=>hx b o (y_ (r_ e)) e;exact h pins _ σ H xs _ Q I1 (by simpa using rv) hw
def Lk(to ti:TE)(t:TSet):TG:=λv σ H Q=>to σ H λo H1=>ti σ H1 λi H2=>t o i v H2 λH3=>Q σ H3
theorem FA{o i:SN}{to ti:TE}{t:TSet}(ho:PE X o to)(hi:PE X i ti)(hs:Jj X t)
  (ha:∀v,assign (.Subscript o i pos) X.env v=(do
   let ov <- holding [v] (eval o X.env)
   let iv <- holding [v,ov] (eval i X.env)
   standAt pos
   holding [v,ov,iv] (setItem ov iv v)
   release [v,ov,iv] []):=by intro _;rfl):PG X (.Subscript o i pos) (Lk to ti t):=by
 intro pins s σ H v u Q I r h;rw[ha];refine a_ (K_ (br (ho pins s σ H _ I h) λov s1 ⟨x,H1,I1,r1,q1⟩=>?_));refine a_ (K_ (br (hi pins s1 σ H1 _ I1 q1) λiv s2 ⟨y,H2,I2,r2,q2⟩=>?_));refine a_ (Pf (a_ (K_ (br (hs pins s2 σ H2 x y v ov iv u _ I2 r1 r2 r q2) λ_ s3 ⟨H3,I3,q3⟩=>?_))));exact wpAny_release ⟨σ,H3,I3,q3⟩
def zm(te:TE)(g:TG):TS:=λD σ H=>te σ H λx H1=>g x σ H1 D.nx
theorem ug{tg e:SN}{te:TE}{g:TG}(he:PE X e te)(hg:PG X tg g)(hs:swapsWithSole [tg] e pos.line X.env=pure false:=by rfl)(hw:swappedStores [tg] e X.env=pure none:=by rfl)
  (h1:(assignEach [tg] X.env).map (·.2)=[assign tg X.env]:=by rfl):PS X (.Assign [tg] e pos) (zm te g):=by
 intro pins s σ H D I h;refine wpAny_Assign_stores (br (he pins s σ H _ I h) λv s1 ⟨x,H1,I1,r1,q1⟩=>?_) hs hw;rw[h1];exact br (hg pins s1 σ H1 x v _ I1 r1 q1) λ_ s2 q=>q
theorem qj{i:Nat}{x:Str}{e:SN}{te:TE}{pos':Pos}(hN:X.N.Nodup)(hi:X.N[i]?=some x)(hx:Loc X.env.scope x)(he:PE X e te)(hs:swapsWith e (some (.Name x pos')) pos.line X.env=pure false:=by rfl)(hf:X.fn x=true\/X.env.scope.names.lookup x=some .local:=by first | exact .inl rfl | exact .inr rfl | assumption) :
  PS X (.Assign [.Name x pos'] e pos) (zm te (rG i)):=by
 intro pins s σ H D I h;refine wpAny_Assign_Name (br (he pins s σ H _ I h) λv s1 ⟨y,H1,I1,r1,q1⟩=>?_) hs;exact mG I1 hN hi hx r1 (λs2 I2=>⟨_,H1,I2,q1⟩) hf
def LA(i:Nat)(te:TE)(ti:TIp):TS:=λD σ H=>∃x,σ[i]?=some (some x)/\te σ H λy H1=>ti x y H1 λz H2=>D.nx (σ.set i (some z)) H2
theorem FR{i:Nat}{x:Str}{e:SN}{te:TE}{op:Operator}{ti:TIp}{pos':Pos}(hN:X.N.Nodup)(hi:X.N[i]?=some x)(hx:Loc X.env.scope x)(he:PE X e te)(ho:Nq X op ti)(hf:X.fn x=true\/X.env.scope.names.lookup x=some .local:=by first | exact .inl rfl | exact .inr rfl | assumption) :
  PS X (.AugAssign (.Name x pos') op e pos) (LA i te ti):=by
 intro pins s σ H D I h;obtain⟨v,e1,h⟩:=h;obtain⟨m,hn,hl⟩:=I.loc;have vis:wX X.env.scope x:=by rcases hx with k | k;exact .inl k;exact .inr (.inl k)
 obtain⟨u,r,l⟩:=hl i x v hi e1 vis;refine wpAny_AugAssign_Name ?_;have go:wpAny (model X.prog X.w) X.A (eval e X.env) (λw s₂=>wpAny (model X.prog X.w) X.A (inplaceOp op u w) (λr s₃=>wpAny (model X.prog X.w) X.A (storeName X.env x r) (λ_=>SP X pins D .next) X.xe s₃) X.xe s₂) X.xe s:=by
  refine br (he pins s σ H _ I h) λw s1 ⟨y,H1,I1,r1,q1⟩=>?_;refine br (ho pins s1 σ H1 v y u w _ I1 r r1 q1) λz s2 ⟨zv,H2,I2,r2,q2⟩=>?_;exact mG I2 hN hi hx r2 (λs3 I3=>⟨_,H2,I3,q2⟩) hf
 rcases l with ⟨hk,hm⟩ | ⟨hk,c,hc,wo⟩
 .exact wpAny_loadName_local I.ok.kind hk hn hm go
 .rcases hk with hk | hk
  .exact wpAny_loadName_cell I.ok.kind hk hc wo go
  .rcases hx with k | k
   .have:X.env.scope.names.lookup x=some .free:=hk;rw[k]at this;cases this
   .have:X.env.scope.names.lookup x=some .free:=hk;rw[k]at this;cases this
def On(f:Int->Int->Int):TIp:=λx y H Q=>∃i j,x=.int i/\y=.int j/\Q (.int (f i j)) H
theorem GB:Nq X .Add (On λi j=>i+j):=by
 intro pins s σ H x y v u Q I r1 r2 h;obtain⟨i,j,e1,e2,q⟩:=h;subst e1;subst e2;obtain⟨t,rfl⟩:=r1;obtain⟨t',rfl⟩:=r2;exact iadd_int ⟨.int _,H,I.tok _,⟨_,rfl⟩,q⟩
end
section
variable {X:Cx}{pos:Pos}
def EN(c:TT)(tb:TS):TS:=λD σ H=>∃W:Nat->St->Hp->Prop,(∃m,W m σ H)/\∀m σ H,W m σ H->
 c σ H λb H1=>if b=true then ∃N:St->Hp->Prop,(∀σ' H',N σ' H'->∃m',m'<m/\W m' σ' H')/\tb {D with nx:=N,ct:=N,bk:=D.nx} σ H1 else D.nx σ H1
theorem Ad{c:SN}{body:Sx}{tc:TT}{tb:TS}(hp:PassesOwn (model X.prog X.w) X.A X.env X.xe)(hc:PT X c tc)(hb:nJ X body tb):PS X (.While c body [] pos) (EN tc tb):=by
 intro pins s σ H D I h;obtain⟨W,⟨m0,w0⟩,turn⟩:=h;refine wpAny_While (codeAny_whileLoop (λn s'=>∃σ' H',Inv X pins σ' H' s'/\W n σ' H') ?_ m0 ⟨σ,H,I,w0⟩);rintro n s1 ⟨σ1,H1,I1,w1⟩;refine PU hp (br (hc pins s1 σ1 H1 _ I1 (turn n σ1 H1 w1)) λb s2 ⟨H2,I2,q2⟩=>?_);cases b with
 | true=>
  obtain⟨N,hN,q2⟩:=q2;rw[k_ rfl];refine PU hp (br (hb pins s2 σ1 H2 _ I2 q2) λf s3 q3=>?_);cases f with
  | next=>
   obtain⟨σ3,H3,I3,n3⟩:=q3;obtain⟨m',hm,w3⟩:=hN σ3 H3 n3;exact⟨m',hm,σ3,H3,I3,w3⟩
  | cont=>
   obtain⟨σ3,H3,I3,n3⟩:=q3;obtain⟨m',hm,w3⟩:=hN σ3 H3 n3;exact⟨m',hm,σ3,H3,I3,w3⟩
  | brk=>exact q3
  | ret v=>exact q3
 | false=>
  rw[l_ F_];exact Rm ⟨σ1,H2,I2,q2⟩
end
structure It where
 go:Nat->Hp->Prop
 yld:Nat->Hp->V->Hp->Prop
 stop:Nat->Hp->Prop
def bR(X:Cx)(pins:Sk)(H:Hp)(b:SM):Prop:=
 H b=none/\b≠X.env.locals/\b∉X.fs/\(b∈X.ex\/X.s₀.heap.objs.size<=b)/\(∀x c,X.env.cells.lookup x=some c->c≠b)/\∀p∈X.pn++pins,p.1≠b
theorem Inv.fpOk{X:Cx}{pins:Sk}{σ:St}{H H':Hp}{s:SE}{b:SM}(I:Inv X pins σ H s)(hb:s.heap.objs.size<=b)(hn:H' b=none):bR X pins H' b:=by
 refine⟨hn,Rw (E_ I.lt hb),I.nofs hb,.inr (C_ I.sz hb),λx c e z=>?_,λp hp z=>?_⟩
 .obtain⟨v,q⟩:=I.cell x c e;exact absurd (E_ q.lt (by rw[z];exact hb)) (Qf _)
 .exact absurd (E_ (r_ (I.pin p hp).1) (by rw[z];exact hb)) (Qf _)
structure Turn(P:Program)(w:World)(K:PySem.W.Frag)(tg:Expr)(J:It)(fp:List Addr)(it:Addr)(tn:Nat->Heap->Prop):Prop where
 mem:it∈fp
 obj:∀i h,tn i h->∀b∈fp,∃o,h.get? b=some o/\∀v,o.data≠.cell v
 keep:∀i h h',tn i h->(∀b∈fp,∀o,h.get? b=some o->h'.get? b=some o)->tn i h'
 item:∀(X:Cx),X.prog=P->X.w=w->X.K=K->X.calm=true->∀(i:Nat)(pins:List (Addr×Obj))(s:Shared)(σ:St)(H:Hp)(E:Value->Shared->Prop),Inv X pins σ H s->(∀b∈fp,bR X pins H b)->tn i s.heap->J.go i H->
  wpAny (model P w) X.A (pyNext (.ref it)) (λr s1=>∃u,r=some u/\
   wpAny (model P w) X.A (letOwnedTupleGo tg (.ref it) u) (λ_ s2=>∃x H',Inv X pins σ H' s2/\RelV x u/\J.yld i H x H'/\tn (i+1) s2.heap/\∀b∈fp,H' b=none) E s1) E s
 done:∀(X:Cx),X.prog=P->X.w=w->X.K=K->X.calm=true->∀(i:Nat)(pins:List (Addr×Obj))(s:Shared)(σ:St)(H:Hp)(E:Value->Shared->Prop),Inv X pins σ H s->(∀b∈fp,bR X pins H b)->tn i s.heap->J.stop i H->
  wpAny (model P w) X.A (pyNext (.ref it)) (λr s1=>r=none/\Inv X pins σ H s1) E s
 self:∀(A:Around)(i:Nat)(s:Shared)(Q:Value->Shared->Prop)(E:Value->Shared->Prop),tn i s.heap->Q (.ref it) s->wpAny (model P w) A (pyIter (.ref it)) Q E s
abbrev TI:=St->Hp->(It->Hp->Prop)->Prop
def Nl(X:Cx)(pins:Sk)(σ:St)(tg:SN)(R:It->Hp->Prop)(JX:SC)(s2:SE):Prop:=
 ∃(it:SM)(fp:Sv)(tn:Nat->SH->Prop)(J:It)(H':Hp),JX=.ref it/\Inv X pins σ H' s2/\Turn X.prog X.w X.K tg J fp it tn/\tn 0 s2.heap/\(∀b∈fp,bR X pins H' b)/\R J H'
def PI(X:Cx)(tg iter:SN)(wi:TI):Prop:=
 ∀(pins:Sk)(s:SE)(σ:St)(H:Hp)(R:It->Hp->Prop),Inv X pins σ H s->wi σ H R->
  wpAny (model X.prog X.w) X.A (eval iter X.env) (λv s1=>wpAny (model X.prog X.w) X.A (pyIter v) (Nl X pins σ tg R) X.xe s1) X.xe s
theorem vf{M:Model}{A:SG}{E:Sj}{s:SE}{tg:SN}{it:SM}{u:SC}{o:Obj}{n:String}{vs:Array SC}{Q:Unit->SE->Prop}(ho:s.heap.get? it=some o)(hc:o.cls=.type n)(hd:o.data=.fields vs)
    (hn:["enumerate","zip","dict_itemiterator","dict_reverseitemiterator","odict_iterator","itertools.zip_longest","itertools.pairwise"].contains n=false) (hQ:Q () s):wpAny M A (letOwnedTupleGo tg (.ref it) u) Q E s:=by
  unfold letOwnedTupleGo;cases tg<;>first
    | exact d_ hQ
    | (cases u<;>first
        | exact d_ hQ
        | (refine a_ (wpAny_load ho ?_)
           rw[hc,hd];show wpAny M A (if(["enumerate","zip","dict_itemiterator","dict_reverseitemiterator","odict_iterator","itertools.zip_longest","itertools.pairwise"].contains n&&vs[0]?==some (rawInt _))=true then _ else _) Q E s;rw[l_ (by intro h;rw[hn,Sg]at h;cases h)];exact d_ hQ))
def LU(K:SB)(a:SM):It:=
 ⟨λi H=>∃xs x,cT K H a xs/\xs[i]?=some x,λi H x H'=>H'=H/\∀xs,cT K H a xs->xs[i]?=some x,λi H=>∃xs,cT K H a xs/\xs.length<=i⟩
def LP(K:SB)(a:SM):It:=
 ⟨λi H=>∃xs x,cH K H a xs/\xs[i]?=some x,λi H x H'=>H'=H/\∀xs,cH K H a xs->xs[i]?=some x,λi H=>∃xs,cH K H a xs/\xs.length<=i⟩
def Kx(lo:Int)(n:Nat):It:=⟨λi _=>i<n,λi H x H'=>H'=H/\x=.int (lo+i),λi _=>n<=i⟩
theorem xy{P:SF}{w:SI}{K:SB}{tg:SN}(a it:SM):Turn P w K tg (LU K a) [it] it (λi h=>h.IsListIter it a i) where
 mem:=by simp
 obj:=λi h st b hb=>by
  have e:b=it:=by simpa using hb
  subst e;obtain⟨o,e,c,d⟩:=st;exact⟨o,e,λv z=>by rw[d]at z;cases z⟩
 keep:=λi h h' st k=>st.at λo e=>k it (by simp) o e
 item:=by
  intro X hP hw hK hc i pins s σ H E I hf st hg;subst hP hw hK;obtain⟨xs,x,hq,hx⟩:=hg;obtain⟨aX,rv,p,hz⟩:=I.list hq;obtain⟨u,hu,ru⟩:=rv.get hx;obtain⟨f0,f1,f2,f3,f4,f5⟩:=hf it (by simp);refine P8 st p.isList (x:=u) (by simpa using hu) λh' oW sb=>?_;have I1:Inv X pins σ H {s with heap:=h'}:=I.turned (t':=s.toks) (λb o hb e=>(sb.2 b hb).trans e) f0 f1 f3 f4 f5;obtain⟨o,e,c,d⟩:=id oW;exact⟨u,rfl,vf (s:={s with heap:=h'}) e c d (by decide) ⟨x,H,I1,ru,⟨rfl,λys hy=>by rw[I.list_inj hy hq];exact hx⟩,oW,λb hb=>(hf b hb).1⟩⟩
 done:=by
  intro X hP hw hK hc i pins s σ H E I hf st hg;subst hP hw hK;obtain⟨xs,hq,hx⟩:=hg;obtain⟨aX,rv,p,hz⟩:=I.list hq;obtain⟨f0,f1,f2,f3,f4,f5⟩:=hf it (by simp);have hl:=rv.length;exact Q8 (I.ok.hd hc) st p.isList (by simp;omega) λh' eb=>⟨rfl,I.turned (t':=s.toks) (λb o hb e=>eb b o hb e) f0 f1 f3 f4 f5⟩
 self:=λ_ _ _ _ _ st h=>wpAny_pyIter_listiter st h
theorem tQ{P:SF}{w:SI}{K:SB}{tg:SN}(a it:SM):Turn P w K tg (LP K a) [it] it (λi h=>h.IsTupleIter it a i) where
 mem:=by simp
 obj:=λi h st b hb=>by
  have e:b=it:=by simpa using hb
  subst e;obtain⟨o,e,c,d⟩:=st;exact⟨o,e,λv z=>by rw[d]at z;cases z⟩
 keep:=λi h h' st k=>st.at λo e=>k it (by simp) o e
 item:=by
  intro X hP hw hK hc i pins s σ H E I hf st hg;subst hP hw hK;obtain⟨xs,x,hq,hx⟩:=hg;obtain⟨aX,rv,p,hz⟩:=I.tuple hq;obtain⟨u,hu,ru⟩:=rv.get hx;obtain⟨f0,f1,f2,f3,f4,f5⟩:=hf it (by simp);refine wpAny_pyNext_tuple_item st (show s.heap.IsTuple a aX.toArray from p) (x:=u) (by simpa using hu) λh' oW sb=>?_;have I1:Inv X pins σ H {s with heap:=h'}:=I.turned (t':=s.toks) (λb o hb e=>(sb.2 b hb).trans e) f0 f1 f3 f4 f5;obtain⟨o,e,c,d⟩:=id oW;exact⟨u,rfl,vf (s:={s with heap:=h'}) e c d (by decide) ⟨x,H,I1,ru,⟨rfl,λys hy=>by rw[I.tuple_inj hy hq];exact hx⟩,oW,λb hb=>(hf b hb).1⟩⟩
 done:=by
  intro X hP hw hK hc i pins s σ H E I hf st hg;subst hP hw hK;obtain⟨xs,hq,hx⟩:=hg;obtain⟨aX,rv,p,hz⟩:=I.tuple hq;obtain⟨f0,f1,f2,f3,f4,f5⟩:=hf it (by simp);have hl:=rv.length;exact wpAny_pyNext_tuple_end (I.ok.hd hc) st (show s.heap.IsTuple a aX.toArray from p) (by simp;omega) λh' eb=>⟨rfl,I.turned (t':=s.toks) (λb o hb e=>eb b o hb e) f0 f1 f3 f4 f5⟩
 self:=λ_ _ _ _ _ st h=>wpAny_pyIter_tupleiter st h
theorem tU{P:SF}{w:SI}{K:SB}{tg:SN}(it:SM)(lo:Int)(n:Nat):Turn P w K tg (Kx lo n) [it] it (λi h=>IsRangeIter h it (lo+(i:Nat)*1) ((n:Int)-(i:Nat)) 1) where
 mem:=by simp
 obj:=λi h st b hb=>by
  have e:b=it:=by simpa using hb
  subst e;exact⟨_,st,λv z=>by
   have z':Data.fields _=Data.cell v:=z;cases z'⟩
 keep:=λi h h' st k=>k it (by simp) _ st
 item:=by
  intro X hP hw hK hc i pins s σ H E I hf st hg;subst hP hw hK;obtain⟨f0,f1,f2,f3,f4,f5⟩:=hf it (by simp);have W:=Walks.range (prog:=X.prog) (w:=X.w) (I.ok.hd hc) it lo 1 n;refine W.item i s _ _ hg st λv h' tk hv oW kk=>?_;obtain⟨t,rfl⟩:=hv;have I1:Inv X pins σ H {s with heap:=h',toks:=tk}:=I.turned (λb o hb e=>kk b o (by simpa using hb) e) f0 f1 f3 f4 f5;refine⟨_,rfl,vf (s:={s with heap:=h',toks:=tk}) (n:="range_iterator") oW rfl rfl (by decide) ⟨.int (lo+i),H,I1,⟨t,?_⟩,⟨rfl,rfl⟩,oW,λb hb=>(hf b hb).1⟩⟩;rw[Int.mul_one]
 done:=by
  intro X hP hw hK hc i pins s σ H E I hf st hg;subst hP hw hK;obtain⟨f0,f1,f2,f3,f4,f5⟩:=hf it (by simp);exact wpAny_pyNext_range_end (I.ok.hd hc) st (by have:n<=i:=hg;omega) λh' eb=>⟨rfl,I.turned (t':=s.toks) (λb o hb e=>eb b o hb e) f0 f1 f3 f4 f5⟩
 self:=λ_ _ _ _ _ st h=>wpAny_pyIter_rangeiter st h
section
variable {X:Cx}{tg:SN}
def JC(K:SB)(tl:TE):TI:=λσ H R=>tl σ H λx H1=>∃a,x=.ref a/\(∃xs,cT K H1 a xs)/\R (LU K a) H1
def K8(K:SB)(tl:TE):TI:=λσ H R=>tl σ H λx H1=>∃a,x=.ref a/\(∃xs,cH K H1 a xs)/\R (LP K a) H1
theorem Bz{l:SN}{tl:TE}(hl:PE X l tl):PI X tg l (JC X.K tl):=by
 intro pins s σ H R I h;refine br (hl pins s σ H _ I h) λv s1 ⟨x,H1,I1,r1,q1⟩=>?_;obtain⟨a,e,⟨xs,hq⟩,q⟩:=q1;subst e;cases r1;obtain⟨aX,rv,p,hz⟩:=I1.list hq;refine Qi p.isList ?_;refine⟨s1.heap.objs.size,[s1.heap.objs.size],_,_,H1,rfl,I1.kept (t':=s1.toks) λb o e=>e_ _ e,xy a _,⟨_,n_ _ rfl,rfl,rfl⟩,λb hb=>?_,q⟩;have e:b=s1.heap.objs.size:=by simpa using hb
 subst e;exact I1.fpOk (h_ _) (I1.hok.fresh (h_ _))
theorem Fy{l:SN}{tl:TE}(hl:PE X l tl):PI X tg l (K8 X.K tl):=by
 intro pins s σ H R I h;refine br (hl pins s σ H _ I h) λv s1 ⟨x,H1,I1,r1,q1⟩=>?_;obtain⟨a,e,⟨xs,hq⟩,q⟩:=q1;subst e;cases r1;obtain⟨aX,rv,p,hz⟩:=I1.tuple hq;refine QJ (show s1.heap.IsTuple a aX.toArray from p) ?_;refine⟨s1.heap.objs.size,[s1.heap.objs.size],_,_,H1,rfl,I1.kept (t':=s1.toks) λb o e=>e_ _ e,tQ a _,⟨_,n_ _ rfl,rfl,rfl⟩,λb hb=>?_,q⟩;have e:b=s1.heap.objs.size:=by simpa using hb
 subst e;exact I1.fpOk (h_ _) (I1.hok.fresh (h_ _))
theorem zB{pins:Sk}{σ:St}{H:Hp}{s:SE}{R:It->Hp->Prop}{E:Sj}{lo hi:Int}{t u v:Tok}{tk:Nat}(I:Inv X pins σ H s)(h1:-(2 ^ 62)<=lo)(h2:lo<2 ^ 62)(h3:-(2 ^ 62)<=hi)(h4:hi<2 ^ 62)
  (q:R (Kx lo (hi-lo).toNat) H):wpAny (model X.prog X.w) X.A (pyIter (.ref s.heap.objs.size)) (Nl X pins σ tg R) E {s with heap:=s.heap.push {cls:=.type "range",data:=.fields #[.int lo t,.int hi u,.int 1 v]},toks:=tk}:=by
 refine wpAny_pyIter_range (IsRange.new ..) (small_one h1 h2 h3 h4) ?_;have I1:Inv X pins σ H {s with heap:=s.heap.push {cls:=.type "range",data:=.fields #[.int lo t,.int hi u,.int 1 v]},toks:=tk}:=I.kept λb o e=>e_ _ e;refine⟨(s.heap.push {cls:=.type "range",data:=.fields #[.int lo t,.int hi u,.int 1 v]}).objs.size,[(s.heap.push {cls:=.type "range",data:=.fields #[.int lo t,.int hi u,.int 1 v]}).objs.size],_,_,H,rfl,
  I1.kept (t':=tk) λb o e=>e_ _ e,tU _ lo (hi-lo).toNat,?_,λb hb=>?_,q⟩
 .have e1:lo+((0:Nat):Int)*1=lo:=by simp
  have e2:(((hi-lo).toNat:Nat):Int)-((0:Nat):Int)=Builtin.Range.rangeSize lo hi 1:=by rw[rangeSize_one];split<;>omega
  show IsRangeIter _ _ (lo+((0:Nat):Int)*1) ((((hi-lo).toNat:Nat):Int)-((0:Nat):Int)) 1;rw[e1,e2];exact n_ _ rfl
 .have e:b=(s.heap.push {cls:=.type "range",data:=.fields #[.int lo t,.int hi u,.int 1 v]}).objs.size:=by simpa using hb
  subst e;exact I1.fpOk (h_ _) (I1.hok.fresh (h_ _))
def Je(ta:TA):TI:=λσ H R=>ta σ H λvs H1=>∃j:Int,vs=[.int j]/\-(2 ^ 62)<=j/\j<2 ^ 62/\R (Kx 0 j.toNat) H1
theorem wU{a:SN}{ta:TA}{p pos:Pos}(hg:Gl X "range")(hm:X.mg "range"=none)(ha:PA X [a] ta)(hs:starEach [a] X.env=[(false,eval a X.env)]:=by rfl):PI X tg (.Call (.Name "range" p) [a] [] pos) (Je ta):=by
 intro pins s σ H R I h;refine Call_ (gM I hg hm boot_range (Pe (br (ha pos pins s σ H _ I h) λus s1 ⟨vs,H1,I1,r1,q1⟩=>?_) hs rfl));obtain⟨j,e,q1,q2,q⟩:=q1;subst e;cases r1 with
 | cons r rr=>
  cases rr;obtain⟨t,rfl⟩:=r;exact call_range_1 (zB I1 (by omega) (by omega) q1 q2 (by simpa using q))
def Ma(wi:TI)(g:TG)(tb:TS):TS:=λD σ H=>wi σ H λJ H1=>∃W:Nat->Nat->St->Hp->Prop,(∃m,W 0 m σ H1)/\∀i m σ H,W i m σ H->
 (J.stop i H/\D.nx σ H)\/(J.go i H/\∃N:St->Hp->Prop,(∀σ' H',N σ' H'->∃m',m'<m/\W (i+1) m' σ' H')/\∀x H',J.yld i H x H'->g x σ H' λσ2 H2=>tb {D with nx:=N,ct:=N,bk:=D.nx} σ2 H2)
def jI(fp:Sv)(h:SH):Sk:=fp.filterMap λb=>(h.get? b).map λo=>(b,o)
theorem iZ{fp:Sv}{h:SH}{b:SM}{o:Obj}(hb:b∈fp)(e:h.get? b=some o):(b,o)∈jI fp h:=QI.mpr ⟨b,hb,by rw[e];rfl⟩
theorem xo{fp:Sv}{h:SH}{p:SM×Obj}(hp:p∈jI fp h):p.1∈fp/\h.get? p.1=some p.2:=by
 obtain⟨b,hb,e⟩:=QI.mp hp;cases q:h.get? b with
 | none=>rw[q]at e;cases e
 | some o=>
  rw[q]at e;have e':(b,o)=p:=Option.some.inj e;subst e';exact⟨hb,q⟩
theorem Inv.pinned{pins:Sk}{σ:St}{H:Hp}{s:SE}{fp:Sv}(I:Inv X pins σ H s)(hf:∀b∈fp,bR X pins H b)(ho:∀b∈fp,∃o,s.heap.get? b=some o/\∀v,o.data≠.cell v):Inv X (pins++jI fp s.heap) σ H s:=
 I.pins_of λp hp=>(Oz.mp hp).elim (λz=>I.pin p (B_ _ z)) λz=>by
  obtain⟨hb,e⟩:=xo z;obtain⟨f0,f1,f2,_⟩:=hf p.1 hb;obtain⟨o,e',d⟩:=ho p.1 hb;rw[e]at e';cases e';exact⟨e,f0,f1,f2,d⟩
theorem Inv.unpinned{pins pl:Sk}{σ:St}{H:Hp}{s:SE}(I:Inv X (pins++pl) σ H s):Inv X pins σ H s:=I.pins_of λp hp=>I.pin p (B_ _ (Rg _ hp))
theorem EO{iter:SN}{body:Sx}{wi:TI}{g:TG}{tb:TS}{pos:Pos}(hp:PassesOwn (model X.prog X.w) X.A X.env X.xe)(hc:X.calm=true)(hi:PI X tg iter wi)(hg:PG X tg g)(hb:nJ X body tb)
  (hs:∀x,foldedSetIterable iter X.env x=pure x:=by intro _;rfl):PS X (.For tg iter body [] pos) (Ma wi g tb):=by
 intro pins s σ H D I h;refine wpAny_For (br (hi pins s σ H _ I h) λv s1 h1=>br h1 λJX s2 h2=>?_) hs;obtain⟨it,fp,tn,J,H2,e,I2,T,st2,f2,W,⟨m0,w0⟩,turn⟩:=h2;subst e;have uO:∀{H':Hp},(∀b∈fp,H' b=none)->∀b∈fp,bR X pins H' b:=λhn b hb=>⟨hn b hb,(f2 b hb).2⟩;refine codeAny_forLoop_any (λn s'=>∃i σ' H',Inv X pins σ' H' s'/\tn i s'.heap/\(∀b∈fp,H' b=none)/\W i n σ' H') ?_ m0 ⟨0,σ,H2,I2,st2,λb hb=>(f2 b hb).1,w0⟩;rintro n s3 ⟨i,σ3,H3,I3,Ny,KP,w3⟩;rcases turn i n σ3 H3 w3 with ⟨stop,qn⟩ | ⟨go,N,hN,step⟩
 .refine PU hp (br (T.done X rfl rfl rfl hc i pins s3 σ3 H3 X.xe I3 (uO KP) Ny stop) λr s4 ⟨hr,I4⟩=>?_);subst hr;exact Rm ⟨σ3,H3,I4,qn⟩
 .refine PU hp (br (T.item X rfl rfl rfl hc i pins s3 σ3 H3 X.xe I3 (uO KP) Ny go) λr s4 ⟨u,hr,h4⟩=>?_);subst hr;refine PU hp (br h4 λ_ s5 ⟨x,H5,I5,r5,y5,Mm,fr5⟩=>?_);have I5':=I5.pinned (uO fr5) (T.obj _ _ Mm);refine PU hp (br (hg _ s5 σ3 H5 x u _ I5' r5 (step x H5 y5)) λ_ s6 ⟨σ6,H6,I6,q6⟩=>?_);refine PU hp (br (hb _ s6 σ6 H6 _ I6 q6) λf s7 q7=>?_);have again:∀{σ7:St}{H7:Hp},Inv X (pins++jI fp s5.heap) σ7 H7 s7->N σ7 H7->∃m,m<n/\∃i σ' H',Inv X pins σ' H' s7/\tn i s7.heap/\(∀b∈fp,H' b=none)/\W i m σ' H':=λ{σ7 H7} I7 n7=>by
   obtain⟨m',hm,w7⟩:=hN σ7 H7 n7;refine⟨m',hm,i+1,σ7,H7,I7.unpinned,T.keep _ _ _ Mm λb hb o e=>(I7.pin (b,o) (B_ _ (B_ _ (iZ hb e)))).1,λb hb=>?_,w7⟩;obtain⟨o,e,d⟩:=T.obj _ _ Mm b hb;exact(I7.pin (b,o) (B_ _ (B_ _ (iZ hb e)))).2.1
  cases f with
  | next=>obtain⟨σ7,H7,I7,n7⟩:=q7;exact again I7 n7
  | cont=>obtain⟨σ7,H7,I7,n7⟩:=q7;exact again I7 n7
  | brk=>obtain⟨σ7,H7,I7,q7⟩:=q7;exact⟨σ7,H7,I7.unpinned,q7⟩
  | ret v=>obtain⟨x7,σ7,H7,I7,r7,q7⟩:=q7;exact⟨x7,σ7,H7,I7.unpinned,r7,q7⟩
end
abbrev R2:=V->V->Hp->VK->Prop
def ip(X:Cx)(f:SC->SC->Sem SC)(r:R2):Prop:=
 ∀(pins:Sk)(s:SE)(σ:St)(H:Hp)(x y:V)(v u:SC)(Q:VK),Inv X pins σ H s->RelV x v->RelV y u->r x y H Q->
  wpAny (model X.prog X.w) X.A (f v u) (EP X pins σ Q) X.xe s
def Lj(X:Cx)(f:SC->Sem SC)(r:V->Hp->VK->Prop):Prop:=
 ∀(pins:Sk)(s:SE)(σ:St)(H:Hp)(x:V)(v:SC)(Q:VK),Inv X pins σ H s->RelV x v->r x H Q->
  wpAny (model X.prog X.w) X.A (f v) (EP X pins σ Q) X.xe s
def dq(X:Cx)(f:SC)(r:SX->Hp->VK->Prop):Prop:=
 ∀(pins:Sk)(s:SE)(σ:St)(H:Hp)(xs:SX)(us:Sr)(Q:VK),Inv X pins σ H s->av xs us->r xs H Q->
  wpAny (model X.prog X.w) X.A (call f us) (EP X pins σ Q) X.xe s
def L8(X:Cx)(r:V->Hp->(Bool->Hp->Prop)->Prop):Prop:=
 ∀(pins:Sk)(s:SE)(σ:St)(H:Hp)(x:V)(v:SC)(Q:Bool->Hp->Prop),Inv X pins σ H s->RelV x v->r x H Q->
  wpAny (model X.prog X.w) X.A (truthy v) (TP X pins σ Q) X.xe s
def HD(r:R2)(ta tb:TE):TE:=λσ H Q=>ta σ H λx H1=>tb σ H1 λy H2=>r x y H2 Q
def Ol(r:V->Hp->VK->Prop)(ta:TE):TE:=λσ H Q=>ta σ H λx H1=>r x H1 Q
def rI(C:Int->Int->Prop)(g:Int->Int->V):R2:=λx y H Q=>∃i j,x=.int i/\y=.int j/\C i j/\Q (g i j) H
def tN(g:Int->Int->V):R2:=λx y H Q=>∃i j,x=.int i/\y=.int j/\Q (g i j) H
def rU(g:Int->V):V->Hp->VK->Prop:=λx H Q=>∃i,x=.int i/\Q (g i) H
section
variable {X:Cx}{a b c:SN}{ta tb tc:TE}{pos:Pos}
theorem GI(ha:PE X a ta)(hb:PE X b tb){pins:Sk}{s:SE}{σ:St}{H:Hp}{R:V->V->Hp->Prop}(I:Inv X pins σ H s)
  (h:ta σ H λx H1=>tb σ H1 λy H2=>R x y H2) {Q:Sj} {f:SC->SC->Sem SC}
  (hf:∀v u s2 x y H2,Inv X pins σ H2 s2->RelV x v->RelV y u->R x y H2->wpAny (model X.prog X.w) X.A (f v u) Q X.xe s2) :
  wpAny (model X.prog X.w) X.A (eval a X.env) (λv s₁=>wpAny (model X.prog X.w) X.A (eval b X.env) (λu s₂=>wpAny (model X.prog X.w) X.A (f v u) Q X.xe s₂) X.xe s₁) X.xe s:=by
 refine br (ha pins s σ H _ I h) λv s1 ⟨x,H1,I1,r1,q1⟩=>?_;refine br (hb pins s1 σ H1 _ I1 q1) λu s2 ⟨y,H2,I2,r2,q2⟩=>?_;exact hf v u s2 x y H2 I2 r1 r2 q2
theorem Ey{op:Operator}{r:R2}(ho:ip X (binaryOp op) r)(ha:PE X a ta)(hb:PE X b tb):PE X (.BinOp a op b pos) (HD r ta tb):=by
 intro pins s σ H Q I h;exact wpAny_BinOp (GI ha hb I h λv u s2 x y H2 I2 rx ry q=>ho pins s2 σ H2 x y v u Q I2 rx ry q)
theorem D4{op:UnaryOp}{r:V->Hp->VK->Prop}(ho:Lj X (unaryOp op) r)(ha:PE X a ta):PE X (.UnaryOp op a pos) (Ol r ta):=by
 intro pins s σ H Q I h;exact UnaryOp_ (br (ha pins s σ H _ I h) λv s1 ⟨x,H1,I1,r1,q1⟩=>ho pins s1 σ H1 x v Q I1 r1 q1)
theorem Jy{f:SC->SC->Sem SC}{C:Int->Int->Prop}{g:Int->Int->Int}
  (rule:∀(i j:Int)(t u:Tok)(s:SE)(Q:Sj)(E:Sj),C i j->Q (.int (g i j) s.toks) {s with toks:=s.toks+1}->wpAny (model X.prog X.w) X.A (f (.int i t) (.int j u)) Q E s) :
  ip X f (rI C λi j=>.int (g i j)):=by
 intro pins s σ H x y v u Q I rx ry h;obtain⟨i,j,rfl,rfl,hc,q⟩:=h;obtain⟨t,rfl⟩:=rx;obtain⟨t',rfl⟩:=ry;exact rule i j t t' s _ _ hc ⟨.int (g i j),H,I.tok _,⟨_,rfl⟩,q⟩
theorem Gu{f:SC->SC->Sem SC}{g:Int->Int->Int}
  (rule:∀(i j:Int)(t u:Tok)(s:SE)(Q:Sj)(E:Sj),Q (.int (g i j) s.toks) {s with toks:=s.toks+1}->wpAny (model X.prog X.w) X.A (f (.int i t) (.int j u)) Q E s) :
  ip X f (tN λi j=>.int (g i j)):=by
 intro pins s σ H x y v u Q I rx ry h;obtain⟨i,j,rfl,rfl,q⟩:=h;obtain⟨t,rfl⟩:=rx;obtain⟨t',rfl⟩:=ry;exact rule i j t t' s _ _ ⟨.int (g i j),H,I.tok _,⟨_,rfl⟩,q⟩
theorem E9{f:SC->SC->Sem SC}{g:Int->Int->Bool}
  (rule:∀(i j:Int)(t u:Tok)(s:SE)(Q:Sj)(E:Sj),Q (.bool (g i j)) s->wpAny (model X.prog X.w) X.A (f (.int i t) (.int j u)) Q E s) :
  ip X f (tN λi j=>.bl (g i j)):=by
 intro pins s σ H x y v u Q I rx ry h;obtain⟨i,j,rfl,rfl,q⟩:=h;obtain⟨t,rfl⟩:=rx;obtain⟨t',rfl⟩:=ry;exact rule i j t t' s _ _ ⟨.bl (g i j),H,I,rfl,q⟩
def IX(i j:Int):Prop:=0<j/\j<1073741824
def JK(i j:Int):Prop:=0<=j/\j<=1000000/\i.natAbs<2 ^ 64
theorem Ff:ip X (binaryOp .Add) (tN λi j=>.int (i+j)):=Gu λ_ _ _ _ _ _ _ q=>add_int q
theorem FC:ip X (binaryOp .Sub) (tN λi j=>.int (i-j)):=Gu λ_ _ _ _ _ _ _ q=>sub_int q
theorem BW:ip X (binaryOp .FloorDiv) (rI IX λi j=>.int (i/j)):=Jy λi j _ _ _ _ _ hc q=>by
 have h1:(0:Int)<j:=hc.1;have h2:j<1073741824:=hc.2;exact floordiv_int (by omega) (by rw[Int.fdiv_eq_ediv_of_nonneg i (by omega)];exact q) (.inl (PyProof.noPylong_small (by omega)))
theorem FY:ip X (binaryOp .Mod) (rI (λ_ j=>0<j) λi j=>.int (i%j)):=Jy λi j _ _ _ _ _ hc q=>by
 have h1:(0:Int)<j:=hc;exact mod_int' (by omega) (by rw[Int.fmod_eq_emod_of_nonneg i (by omega)];exact q)
theorem Fp:ip X (binaryOp .LShift) (rI JK λi j=>.int (i*2 ^ j.toNat)):=Jy λ_ _ _ _ _ _ _ hc q=>lshift_int_small hc.1 hc.2.1 hc.2.2 q
theorem Gm:ip X (binaryOp .BitAnd) (tN λi j=>.int (Builtin.bitAnd i j)):=Gu λ_ _ _ _ _ _ _ q=>and_int q
theorem Lp{f:SC->Sem SC}{g:Int->Int}
  (rule:∀(i:Int)(t:Tok)(s:SE)(Q:Sj)(E:Sj),Q (.int (g i) s.toks) {s with toks:=s.toks+1}->wpAny (model X.prog X.w) X.A (f (.int i t)) Q E s) :
  Lj X f (rU λi=>.int (g i)):=by
 intro pins s σ H x v Q I rx h;obtain⟨i,rfl,q⟩:=h;obtain⟨t,rfl⟩:=rx;exact rule i t s _ _ ⟨.int (g i),H,I.tok _,⟨_,rfl⟩,q⟩
theorem zS:Lj X (unaryOp .USub) (rU λi=>.int (-i)):=Lp λ_ _ _ _ _ q=>neg_int q
end
section
variable {X:Cx}{a b c:SN}{ta tb tc:TE}{pos:Pos}
theorem Aa:ip X (compareOp .Lt) (tN λi j=>.bl (decide (i<j))):=E9 λ_ _ _ _ _ _ _ q=>lt_int q
theorem zW:ip X (compareOp .LtE) (tN λi j=>.bl (decide (i<=j))):=E9 λ_ _ _ _ _ _ _ q=>le_int q
theorem Jg:ip X (compareOp .Gt) (tN λi j=>.bl (decide (j<i))):=E9 λ_ _ _ _ _ _ _ q=>gt_int q
theorem gF(b:SN){op:CmpOp}(h:op≠.In:=by decide)(h2:op≠.NotIn:=by decide):behindInMarks op b=false:=by
 have e1:(op==CmpOp.In)=false:=by cases op<;>first | rfl | exact absurd rfl h
 have e2:(op==CmpOp.NotIn)=false:=by cases op<;>first | rfl | exact absurd rfl h2
 cases b<;>simp[behindInMarks,e1,e2]
theorem Cf{op:CmpOp}{r:R2}(ho:ip X (compareOp op) r)(ha:PE X a ta)(hb:PE X b tb)(hm:behindInMarks op b=false):PE X (.Compare a [op] [b] pos) (HD r ta tb):=by
 intro pins s σ H Q I h;exact wpAny_Compare1 (GI ha hb I h λv u s2 x y H2 I2 rx ry q=>ho pins s2 σ H2 x y v u Q I2 rx ry q) hm
def Ep(t:TE):TT:=λσ H Q=>t σ H λx H'=>∃k,x=.bl k/\Q k H'
theorem Cr{op:CmpOp}{r:R2}(ho:ip X (compareOp op) r)(ha:PE X a ta)(hb:PE X b tb)(hm:behindInMarks op b=false):PT X (.Compare a [op] [b] pos) (Ep (HD r ta tb)):=by
 intro pins s σ H Q I h;refine wpAny_isTrue_Compare1 (br (ha pins s σ H _ I h) λv s1 ⟨x,H1,I1,r1,q1⟩=>br (hb pins s1 σ H1 _ I1 q1) λu s2 ⟨y,H2,I2,r2,q2⟩=>
  br (ho pins s2 σ H2 x y v u _ I2 r1 r2 q2) λc s3 ⟨z,H3,I3,r3,k,e,q3⟩=>?_) hm
 subst e;cases r3;exact Pg ⟨H3,I3,q3⟩
def yR(r r':R2)(ta tb tc:TE):TE:=λσ H Q=>ta σ H λx H1=>tb σ H1 λy H2=>r x y H2 λz H3=>∃k,z=.bl k/\
 (if k=true then tc σ H3 λw' H4=>r' y w' H4 Q else Q (.bl false) H3)
theorem AV{op op':CmpOp}{r r':R2}(ho:ip X (compareOp op) r)(ho':ip X (compareOp op') r')(ha:PE X a ta)(hb:PE X b tb)(hc:PE X c tc)
  (hm:lastMarks [op,op'] [b,c]=false:=by with_unfolding_all rfl):PT X (.Compare a [op,op'] [b,c] pos) (Ep (yR r r' ta tb tc)):=by
 intro pins s σ H Q I h;refine isTrue_chain (br (ha pins s σ H _ I h) λv s1 ⟨x,H1,I1,r1,q1⟩=>test_link (br (hb pins s1 σ H1 _ I1 q1) λu s2 ⟨y,H2,I2,r2,q2⟩=>
  br (ho pins s2 σ H2 x y v u _ I2 r1 r2 q2) λd s3 ⟨z,H3,I3,r3,k,e,q3⟩=>?_)) hm
 subst e;cases r3;refine Pg ?_;cases k with
 | false=>
  obtain⟨k',e',q'⟩:=q3;cases e';exact ite_ff ⟨H3,I3,q'⟩
 | true=>
  refine ite_tt (test_last (br (hc pins s3 σ H3 _ I3 q3) λw' s4 ⟨z',H4,I4,r4,q4⟩=>br (ho' pins s4 σ H4 y z' u w' _ I4 r2 r4 q4) λd' s5 ⟨z2,H5,I5,r5,k2,e2,q5⟩=>?_));subst e2;cases r5;exact Pg ⟨H5,I5,q5⟩
def Il(K:SB)(x:V)(H:Hp)(k:Bool):Prop:=
 match x with
 | .non=>k=false
 | .bl b=>k=b
 | .int i=>k=(i != 0)
 | .str y=>y.length<=sizeLine/\k=((y.length:Int) != 0)
 | .byt y=>y.size<=sizeLine/\k=((y.size:Int) != 0)
 | .ref p=>(∃xs,cT K H p xs/\k=!xs.isEmpty)\/(∃xs,cH K H p xs/\k=!xs.isEmpty)\/∃kvs,H p=some (.dK kvs)/\k=!kvs.isEmpty
 | _=>False
theorem tD{κ:Type}{kvs:List (κ×V)}{vs:List (κ×SC)}(r:KV kvs vs):(!vs.isEmpty)=!kvs.isEmpty:=by
 cases r<;>rfl
theorem ll{xs:SX}{aX:Sr}(r:av xs aX):(!aX.toArray.isEmpty)=!xs.isEmpty:=by
 cases r<;>simp
theorem mP:(sizeLine:Nat)<2 ^ 63:=by rw[OJ];decide
theorem E5:L8 X (λx H Q=>∃k,Il X.K x H k/\Q k H):=by
 intro pins s σ H x v Q I rx h;obtain⟨k,e,q⟩:=h;have hl:=mP;have hs:sizeLine=16777216:=OJ;cases x with
 | non=>
  cases rx;have e':k=false:=e;subst e';exact truthy_none ⟨H,I,q⟩
 | bl b=>
  cases rx;have e':k=b:=e;subst e';exact Pg ⟨H,I,q⟩
 | int i=>
  obtain⟨t,rfl⟩:=rx;have e':k=(i != 0):=e;subst e';exact PySem.P.truthy_int ⟨H,I,q⟩
 | str y=>
  obtain⟨t,rfl⟩:=rx;obtain⟨hy,e'⟩:y.length<=sizeLine/\k=((y.length:Int) != 0):=e;subst e';exact PySem.P.truthy_str (by omega) ⟨H,I.tok _,q⟩
 | byt y=>
  obtain⟨t,rfl⟩:=rx;obtain⟨hy,e'⟩:y.size<=sizeLine/\k=((y.size:Int) != 0):=e;subst e';exact PySem.W.truthy_bytes (by omega) ⟨H,I.tok _,q⟩
 | ref p=>
  cases rx;have e':(∃xs,cT X.K H p xs/\k=!xs.isEmpty)\/(∃xs,cH X.K H p xs/\k=!xs.isEmpty)\/∃kvs,H p=some (.dK kvs)/\k=!kvs.isEmpty:=e;rcases e' with ⟨xs,hx,e'⟩ | ⟨xs,hx,e'⟩ | ⟨kvs,hx,e'⟩
  .subst e';obtain⟨aX,r,pl,hz⟩:=I.list hx;have hlen:=r.length;exact wpAny_truthy_list pl.isList (by simp only[p_];omega) ⟨H,I.tok _,by rw[ll r];exact q⟩
  .subst e';obtain⟨aX,r,pl,hz⟩:=I.tuple hx;have hlen:=r.length;exact truthy_tuple pl (by simp only[p_];omega) ⟨H,I.tok _,by rw[ll r];exact q⟩
  .subst e';obtain⟨hz,hS,vs,r,m⟩:kvs.length<=sizeLine/\(p==sysModules)=false/\∃vs,KV kvs vs/\s.heap.DictOf (aF X.prog X.w) p vs:=I.hok p _ hx;have hlen:kvs.length=vs.length:=Paired.length r;exact wpAny_truthy_dict hS m (by omega) ⟨H,I.tok _,by rw[tD r];exact q⟩
 | _=>exact(show False from e).elim
theorem rk(ha:PE X a ta)(he:∀whole,isTrue a X.env whole=(do let v <- whole;standAt a.pos;holding [v] (truthy v))) :
  PT X a (λσ H Q=>ta σ H λx H'=>∃k,Il X.K x H' k/\Q k H'):=by
 intro pins s σ H Q I h;exact isTrue_plain (br (ha pins s σ H _ I h) λv s1 ⟨x,H1,I1,r1,q1⟩=>E5 pins s1 σ H1 x v Q I1 r1 q1) (he _)
theorem vals1{x:V}{us:Sr}(r:av [x] us):∃u,us=[u]/\RelV x u:=by
 cases r with
 | cons r1 r2=>cases r2;exact⟨_,rfl,r1⟩
theorem vals2{x y:V}{us:Sr}(r:av [x,y] us):∃u w',us=[u,w']/\RelV x u/\RelV y w':=by
 cases r with
 | cons r1 r2=>
  cases r2 with
  | cons r3 r4=>cases r4;exact⟨_,_,rfl,r1,r3⟩
theorem xR(hc:X.calm=true):dq X (.builtin "max") (λxs H Q=>∃i j,xs=[.int i,.int j]/\Q (.int (if j>i then j else i)) H):=by
 intro pins s σ H xs us Q I r h;obtain⟨i,j,rfl,q⟩:=h;obtain⟨u,w',rfl,⟨t,rfl⟩,⟨t',rfl⟩⟩:=vals2 r;refine max_two_ints (I.ok.hd hc) λh' tk k=>⟨_,H,I.kept k,?_,q⟩
 by_cases hj:j>i
 .rw[k_ hj,k_ hj];exact⟨_,rfl⟩
 .rw[l_ hj,l_ hj];exact⟨_,rfl⟩
theorem xD(hc:X.calm=true):dq X (.builtin "min") (λxs H Q=>∃i j,xs=[.int i,.int j]/\Q (.int (if j<i then j else i)) H):=by
 intro pins s σ H xs us Q I r h;obtain⟨i,j,rfl,q⟩:=h;obtain⟨u,w',rfl,⟨t,rfl⟩,⟨t',rfl⟩⟩:=vals2 r;refine min_two_ints (I.ok.hd hc) λh' tk k=>⟨_,H,I.kept k,?_,q⟩
 by_cases hj:j<i
 .rw[k_ hj,k_ hj];exact⟨_,rfl⟩
 .rw[l_ hj,l_ hj];exact⟨_,rfl⟩
theorem xg:dq X (.type "int") (λxs H Q=>(∃i,xs=[.int i]/\Q (.int i) H)\/∃k,xs=[.bl k]/\Q (.int (if k then 1 else 0)) H):=by
 intro pins s σ H xs us Q I r h;rcases h with ⟨i,rfl,q⟩ | ⟨k,rfl,q⟩
 .obtain⟨u,rfl,t,rfl⟩:=vals1 r;exact call_int_int ⟨.int i,H,I,⟨_,rfl⟩,q⟩
 .obtain⟨u,rfl,r1⟩:=vals1 r;cases r1;exact call_int_bool ⟨.int (if k then 1 else 0),H,I.tok _,⟨_,rfl⟩,q⟩
end
structure ObjM(h:Heap)(x dx C:Addr)(mA:Str->Option Value):Prop where
 obj:h.get? x=some (PySem.W.instObj C dx)
 ns:h.Ns1 dx mA
 ne:dx≠x
section
variable {prog:SF}{w:SI}{A:SG}{E:Sj}{s:SE}{K:SB}{x dx C f:SM}{mA:Sm}{name:Str}{v:SC}
end
section
variable {P:SF}{w:SI}{H H':Hp}{h h':SH}{a C dx:SM}{fs JT:List (Str×V)}
end
structure Cls(K:PySem.W.Frag)(C:Addr):Prop where
 pg:PySem.W.plainGet K C Str.empty=true
 hd:PySem.W.hasDictIn K C=true
 po:PySem.W.plainOver K C=true
 sa:PySem.W.findIn K (.ref C) "__setattr__"=some (some (.builtin "object.__setattr__"))
structure Con(K:PySem.W.Frag)(C:Addr)(f:Str)(v:V)(u:Value):Prop where
 at_:PySem.W.findIn K (.ref C) f=some (some u)
 rel:RelV v u
 get:PySem.W.specialIn K u "__get__"=some none
 cp:PySem.W.copiedNames.contains f=false
structure Meth(K:PySem.W.Frag)(C:Addr)(m:Str)(f:Addr):Prop where
 at_:PySem.W.findIn K (.ref C) m=some (some (.ref f))
 fn:PySem.W.isFn K (.ref f)=true
 kp:PySem.W.keepIn K (.ref f)=true
section
variable {X:Cx}{pins:Sk}{σ:St}{H:Hp}{s:SE}{a C dx:SM}{fs:List (Str×V)}{f:Str}{v:V}{A:SG}{E:Sj}
end
section
variable {X:Cx}{o e value:SN}{f:Str}{pos pos' tpos:Pos}{ta tv:TE}
end
section
variable {X:Cx}{pins:Sk}{σ:St}{H:Hp}{s:SE}{A:SG}{E:Sj}{Q:Sj}{c:SC}{b:Bool}
inductive mX(K:PySem.W.Frag)(H:Hp):V->Value->Prop where
 | non:mX K H .non (.type "NoneType")
 | bl (x:Bool):mX K H (.bl x) (.type "bool")
 | int (i:Int):mX K H (.int i) (.type "int")
 | str (x:Str):mX K H (.str x) (.type "str")
 | flt (x:UInt64):mX K H (.flt x) (.type "float")
 | lst {a:Addr} {xs:List V} (e:H a=some (.lst xs)):mX K H (.ref a) (.type "list")
 | frz {a:Addr} {o:Obj} {xs:List V} (e:H a=some (.frz o (.lst xs))):mX K H (.ref a) (.type "list")
 | tup {a:Addr} {xs:List V} (e:H a=some (.tup xs)):mX K H (.ref a) (.type "tuple")
 | dK {a:Addr} {kvs:List (Key×V)} (e:H a=some (.dK kvs)):mX K H (.ref a) (.type "dict")
 | dT {a:Addr} {kvs:List (List Key×V)} (e:H a=some (.dT kvs)):mX K H (.ref a) (.type "dict")
 | ins {a C dx:Addr} {fs:List (Str×V)} (e:H a=some (.ins C dx fs)) (cl:Cls K C) (ha:PySem.W.findIn K (.ref C) "__class__"=some (some (.builtin "object.__class__")))
   (hn:PySem.W.specialIn K (.builtin "object.__class__") "__get__"=some (some (.builtin "getset_descriptor.__get__"))) (htk:PySem.W.takesIn K (.builtin "object.__class__")=some true)
   (hm:PySem.W.mroIn K C (.type "object")=some true):mX K H (.ref a) (.ref C)
end
structure b8(k:Nat)(A:Around):Prop where
 hd:A.handled=none
 dp:A.depth+3*k+5<recursionLimit
 un:A.units+16*k+200<cLine
theorem b8.mono{j k:Nat}{A:SG}(r:b8 k A)(h:j<=k):b8 j A:=⟨r.hd,by have:=r.dp;omega,by have:=r.un;omega⟩
theorem b8.deeper{k:Nat}{A:SG}(r:b8 (k+1) A)(env:Env):b8 k (A.deeper env):=
 ⟨r.hd,by have:=r.dp;show A.depth+1+3*k+5<_;omega,by have:=r.un;show A.units+3+16*k+200<_;omega⟩
theorem b8.in1{k:Nat}{A:SG}(r:b8 (k+1) A):b8 k A.in1:=
 ⟨r.hd,by have:=r.dp;show A.depth+3*k+5<_;omega,by have:=r.un;show A.units+1+16*k+200<_;omega⟩
theorem b8.depth{k:Nat}{A:SG}(r:b8 k A):A.depth<recursionLimit:=by have:=r.dp;omega
theorem b8.units{k:Nat}{A:SG}(r:b8 k A):A.units+64<cLine:=by have:=r.un;omega
def tNil:TA:=λ_ H Q=>Q [] H
def vV(ta:TE)(tr:TA):TA:=λσ H Q=>ta σ H λx H1=>tr σ H1 λxs H2=>Q (x::xs) H2
section
variable {X:Cx}{e:SN}{es:Sw}{te:TE}{t:TA}{pos:Pos}
theorem c6:PA X [] tNil:=λ_ _ _ _ H Q I h=>RM ⟨[],H,I,.nil,h⟩
theorem bF(ha:PE X e te)(hr:PA X es t)(hs:starEach (e::es) X.env=(false,eval e X.env)::starEach es X.env:=by rfl):PA X (e::es) (vV te t):=by
 intro pos pins s σ H Q I h;rw[hs];show wpAny _ _ (spliced ((false,eval e X.env)::backTo pos (starEach es X.env))) _ _ s;refine QK (br (ha pins s σ H _ I h) λu s1 ⟨x,H1,I1,r1,q1⟩=>?_);exact br (hr pos pins s1 σ H1 _ I1 q1) λus s2 ⟨xs,H2,I2,r2,q2⟩=>⟨x::xs,H2,I2,.cons r1 r2,q2⟩
def LO(t:TA):TE:=λσ H Q=>t σ H λxs H1=>xs.length<=sizeLine/\∀p,H1 p=none->Q (.ref p) (upd H1 p (.tup xs))
def Lg(t:TA):TE:=λσ H Q=>t σ H λxs H1=>xs.length<=sizeLine/\∀p,H1 p=none->Q (.ref p) (upd H1 p (.lst xs))
theorem Gz{x1}(h:PA X es t):PE X (.Tuple es x1 pos) (LO t):=by
 intro pins s σ H Q I hq;refine wpAny_Tuple_spliced (br (h pos pins s σ H _ I hq) λus s1 ⟨xs,H1,I1,r,z,q⟩=>⟨by rw[<- r.length];exact z,?_⟩);have hf:H1 s1.heap.objs.size=none:=I1.hok.fresh (h_ _);refine⟨.ref s1.heap.objs.size,upd H1 s1.heap.objs.size (.tup xs),I1.laid (t':=s1.toks) (λb u e=>e_ _ e) (h_ _) ?_,rfl,q _ hf⟩;exact⟨z,us,r,⟨_,n_ _ rfl,rfl,_,rfl⟩⟩
theorem ER(h:PA X es t):PE X (.List es pos) (Lg t):=by
 intro pins s σ H Q I hq;refine wpAny_List_spliced (br (h pos pins s σ H _ I hq) λus s1 ⟨xs,H1,I1,r,z,q⟩=>⟨by rw[<- r.length];exact z,?_⟩);have hf:H1 s1.heap.objs.size=none:=I1.hok.fresh (h_ _);refine⟨.ref s1.heap.objs.size,upd H1 s1.heap.objs.size (.lst xs),I1.laid (t':=s1.toks) (λb u e=>e_ _ e) (h_ _) ?_,rfl,q _ hf⟩;exact⟨z,us,0,r,n_ _ rfl⟩
end
abbrev Sp:=SX->Hp->VK->XK->Prop
abbrev CXT:=List Env->Hp->SE->XK->Sj
structure DD(P:Program)(w:World)(K:PySem.W.Frag)(mg:Str->Option Value)(base:Heap)(A:Around)(outer:List Env)(s:Shared)(H:Hp):Prop where
 frames:A.frames=some outer
 mod:Mod K mg base
 bs:∀b o,base.get? b=some o->s.heap.get? b=some o/\H b=none
 bsz:base.objs.size<=s.heap.objs.size
 funs:s.heap.FunFrames base outer
 frf:∀b∈sY outer,H b=none
 hok:mw P w H s.heap
 bare:AllBare s.gens
 tb:∀P q,tq K P=some q->H P=some (.tab q)
def CE(outer:List Env)(P:SF)(w:SI)(H:Hp)(s:SE)(Q:VK)(u:SC)(s':SE):Prop:=
 ∃v H',s'.os=s.os/\AllBare s'.gens/\Un (sY outer) [] H H' s.heap s'.heap/\mw P w H' s'.heap/\RelV v u/\Q v H'
def CR(CX:CXT)(outer:List Env)(P:SF)(w:SI)(H:Hp)(s:SE)(Q:VK)(E:XK)(r:Result)(s':SE):Prop:=
 match r with
 | .ok (.ret u)=>CE outer P w H s Q u s'
 | .ok _=>False
 | .error e=>CX outer H s E e s'
structure ir(P:Program)(w:World)(K:PySem.W.Frag)(mg:Str->Option Value)(base:Heap)(CX:CXT)(k:Nat)(f:Addr)(fd:FuncData)(ps:List Str)(sp:Sp):Prop where
 len:∀vs H Q E,sp vs H Q E->vs.length=ps.length
 run:∀(A:Around)(outer:List Env)(s:Shared)(H:Hp)(args:Args)(us:List Value)(vs:List V)(Q:VK)(E:XK),b8 k A->DD P w K mg base A outer s H->BindsTo s fd args (ps.zip us)->av vs us->sp vs H Q E->
  codeAny (model P w) A (.call (.ref f) args) (CR CX outer P w H s Q E) s
theorem ir.mono{P:SF}{w:SI}{K:SB}{mg:Sm}{base:SH}{CX:CXT}{j k:Nat}{f:SM}{fd:SJ}{ps:Su}{sp:Sp}(F:ir P w K mg base CX j f fd ps sp)(h:j<=k) :
  ir P w K mg base CX k f fd ps sp:=⟨F.len,λA outer s H args us vs Q E hr=>F.run A outer s H args us vs Q E (hr.mono h)⟩
section
variable {X:Cx}{pins:Sk}{σ:St}{H:Hp}{s s':SE}
theorem Inv.env0(I:Inv X pins σ H s):DD X.prog X.w X.K X.mg X.base X.A X.stack s H:=
 ⟨I.ok.frames,I.ok.mod,I.bs,C_ I.ok.bsz I.sz,I.stack,I.stkFree,I.hok,I.bare,I.tb⟩
theorem Inv.after{Q:VK}{u:SC}(I:Inv X pins σ H s)(h:CE X.stack X.prog X.w H s Q u s'):EP X pins σ Q u s':=by
 obtain⟨v,H',os,bare,un,hok,r,q⟩:=h;obtain⟨hh,g,d,t,os'⟩:=s';obtain rfl:os'=s.os:=os;exact⟨v,H',I.call (h':=hh) (g':=g) (d':=d) (t':=t) (ch:=[]) un hok bare (λb z=>absurd z (by simp)),r,q⟩
end
def HU(sp:Sp)(EB:SX)(E:XK)(t:TA):TE:=λσ H Q=>t σ H λvs H1=>sp (vs++EB) H1 Q E
def Binds(K:SB)(fd:SJ)(ps:Su)(ds:Sr):Prop:=
 ∀(s:SE)(us:Sr),K.In s.heap->(us++ds).length=ps.length->BindsTo s fd ⟨us,[]⟩ (ps.zip (us++ds))
theorem Binds.all{K:SB}{fd:SJ}{ps:Su}(h:∀us:Sr,us.length=ps.length->bindArgs fd ⟨us,[]⟩=pure (ps.zip us)):Binds K fd ps []:=λs us _ hl=>by
 rw[O9]at hl ⊢;exact .of_eq (h us hl)
def tP(CX:CXT)(X:Cx)(E:XK):Prop:=∀(pins:Sk)(σ:St)(H:Hp)(s:SE)(e:SC)(s':SE),Inv X pins σ H s->CX X.stack H s E e s'->X.xe e s'
section
variable {X:Cx}{CX:CXT}{k:Nat}{f C:SM}{fd:SJ}{ps:Su}{sp:Sp}{EB:SX}{ds:Sr}{E:XK}{x m:Str}{p pos apos:Pos}{e o:SN}{es:Sw}{ta:TE}{t:TA}
theorem E2{pins:Sk}{σ:St}{H:Hp}{s:SE}{Q:VK}{us:Sr}{vs:SX}(F:ir X.prog X.w X.K X.mg X.base CX k f fd ps sp)(hr:b8 k X.A)(hb:Binds X.K fd ps ds)(hd:av EB ds)(hx:tP CX X E)
  (I:Inv X pins σ H s) (r:av vs us) (h:sp (vs++EB) H Q E):wpAny (model X.prog X.w) X.A (call (.ref f) us) (EP X pins σ Q) X.xe s:=by
 have r2:av (vs++EB) (us++ds):=r.append hd;have hl:(us++ds).length=ps.length:=by rw[<- r2.length];exact F.len _ _ _ _ h
 refine wpAny_call (codeAny_mono (F.run X.A X.stack s H ⟨us,[]⟩ (us++ds) (vs++EB) Q E hr I.env0 (hb s us I.kIn hl) r2 h) λr s' hq=>?_);cases r with
 | error e=>exact hx pins σ H s e s' I hq
 | ok fl=>
  cases fl with
  | ret u=>exact I.after hq
  | next=>exact False.elim hq
  | brk=>exact False.elim hq
  | cont=>exact False.elim hq
theorem Ds(F:ir X.prog X.w X.K X.mg X.base CX k f fd ps sp)(hr:b8 k X.A)(hg:Gl X x)(hm:X.mg x=some (.ref f))(hk:PySem.W.keepIn X.K (.ref f)=true)(hb:Binds X.K fd ps ds)(hd:av EB ds)(hx:tP CX X E)
  (ha:PA X (e::es) t) (sS:(x==("__debug__":Str))=false:=by decide) (he:starEach (e::es) X.env=(false,eval e X.env)::starEach es X.env:=by rfl) (iO:(backTo pos (starEach es X.env)).any (·.1)=false:=by rfl) :
  PE X (.Call (.Name x p) (e::es) [] pos) (HU sp EB E t):=by
 intro pins s σ H Q I h;refine P9 (vD I hg hm ?_ sS);refine PySem.W.callWith_K (h₀:=X.base) I.ok.mod.kin hk (br (ha pos pins s σ H _ I h) λus s1 ⟨vs,H1,I1,r,q⟩=>⟨I1.kIn,?_⟩) he iO;exact E2 F hr hb hd hx I1 r q
structure Mk(K:PySem.W.Frag)(C f:Addr):Prop where
 makes:PySem.W.makesIn K C=true
 init:PySem.W.findIn K (.ref C) "__init__"=some (some (.ref f))
 fn:PySem.W.isFn K (.ref f)=true
 kp:PySem.W.keepIn K (.ref C)=true
end
section
variable {X:Cx}{CX:CXT}{k:Nat}{f C:SM}{fd:SJ}{ps ks:Su}{sp:Sp}{E:XK}{x m:Str}{p pos apos JY:Pos}{e o:SN}{es:Sw}{kws:List Keyword}{te ta:TE}{t tk:TA}{nm:Option Str}
structure KBinds(K:PySem.W.Frag)(fd:FuncData)(ps ks:List Str)(g:List Value->List Value->List Value)(gV:List V->List V->List V):Prop where
 to:∀(s:Shared)(us ws:List Value),K.In s.heap->(g us ws).length=ps.length->BindsTo s fd ⟨us,ks.zip ws⟩ (ps.zip (g us ws))
 rel:∀{vs:List V}{us:List Value}{zs:List V}{ws:List Value},av vs us->av zs ws->av (gV vs zs) (g us ws)
variable {g:Sr->Sr->Sr}{gV:SX->SX->SX}
end
structure eG(N P:List Str)(sc:Scope):Prop where
 kind:sc.kind=.function
 co:sc.isCoroutine=false
 gen:sc.isGenerator=false
 nd:N.Nodup
 pre:N.take P.length=P
 par:∀x∈P,sc.names.lookup x=some .local\/sc.names.lookup x=some .cell
 nofree:∀y∈sc.names,y.2≠.free
theorem oh{kindOf:Str->Option NameKind}{x:Str}:∀{binds:List (Str×SC)}{m:Sm},(∀v,(x,v)∉binds)->bindL kindOf binds m x=m x
 | [],_,_=>rfl
 | (n,v)::r,m,h=>by
  unfold bindL;rw[oh λw hw=>h w (i_ _ hw)]
  split
  .have:x≠n:=by rintro rfl;exact h v j_
   simp[this]
  .rfl
theorem nW{kindOf:Str->Option NameKind}{x:Str}:∀{binds:List (Str×SC)}{m:Sm},(∀v,(x,v)∉binds)->bindC kindOf binds m x=m x
 | [],_,_=>rfl
 | (n,v)::r,m,h=>by
  unfold bindC;rw[nW λw hw=>h w (i_ _ hw)]
  split
  .rfl
  .have:x≠n:=by rintro rfl;exact h v j_
   simp[this]
theorem oP{kindOf:Str->Option NameKind}{x:Str}{v:SC}:∀{P:Su}{vs:Sr}{i:Nat}{m:Sm},P.Nodup->P[i]?=some x->vs[i]?=some v->kindOf x=some .local->
  bindL kindOf (P.zip vs) m x=some v
 | [],_,_,_,_,h,_,_=>by simp at h
 | _::_,[],_,_,_,_,h,_=>by simp at h
 | p::P,w::vs,0,m,nd,h1,h2,hk=>by
  simp at h1 h2;subst h1;subst h2;show bindL kindOf ((p,w)::P.zip vs) m p=_;unfold bindL;rw[oh λv hv=>(Rn.mp nd).1 (Ro hv).1,k_ hk];simp
 | p::P,w::vs,i+1,m,nd,h1,h2,hk=>by
  show bindL kindOf ((p,w)::P.zip vs) m x=_;unfold bindL;exact oP (i:=i) (Rn.mp nd).2 (by simpa using h1) (by simpa using h2) hk
theorem oU{kindOf:Str->Option NameKind}{x:Str}{v:SC}:∀{P:Su}{vs:Sr}{i:Nat}{m:Sm},P.Nodup->P[i]?=some x->vs[i]?=some v->kindOf x≠some .local->
  bindC kindOf (P.zip vs) m x=some v
 | [],_,_,_,_,h,_,_=>by simp at h
 | _::_,[],_,_,_,_,h,_=>by simp at h
 | p::P,w::vs,0,m,nd,h1,h2,hk=>by
  simp at h1 h2;subst h1;subst h2;show bindC kindOf ((p,w)::P.zip vs) m p=_;unfold bindC;rw[nW λv hv=>(Rn.mp nd).1 (Ro hv).1,l_ hk];simp
 | p::P,w::vs,i+1,m,nd,h1,h2,hk=>by
  show bindC kindOf ((p,w)::P.zip vs) m x=_;unfold bindC;exact oU (i:=i) (Rn.mp nd).2 (by simpa using h1) (by simpa using h2) hk
def start(N:Su)(vs:SX):St:=vs.map some++List.replicate (N.length-vs.length) none
def lq(CX:CXT)(P:SF)(w:SI)(K:SB)(mg:Sm)(base:SH)(N:Su)(qual:Str)(scope:SL)(f:SM)(cd:SC)(A:SG)(outer:List Env)(s:SE)(H:Hp)(E:XK):Cx where
 prog:=P
 w:=w
 K:=K
 mg:=mg
 base:=base
 A:=A.deeper (envOfC qual scope s.heap.objs.size f cd)
 N:=N
 s₀:=s
 H₀:=H
 env:=envOfC qual scope s.heap.objs.size f cd
 outer:=outer
 stack:=envOfC qual scope s.heap.objs.size f cd::outer
 ex:=[]
 calm:=true
 fn:=λ_=>true
 pn:=[]
 xe:=λe s'=>wpAny (model P w) (A.deeper (envOfC qual scope s.heap.objs.size f cd)) (leaving (envOfC qual scope s.heap.objs.size f cd) e) (λ_ Mn=>CX outer H s E e Mn) (λe' Mn=>CX outer H s E e' Mn) s'
theorem qU{sc:SL}{n:Nat}{x:Str}(h:sc.names.lookup x=some .cell):∃c,(cellsFrom n sc.names []).lookup x=some c:=by
 have q:=PySem.W.cellsFrom_some sc.names n [] (.inl h);exact Option.isSome_iff_exists.mp q
theorem xF{CX:CXT}{P:SF}{w:SI}{K:SB}{mg:Sm}{base:SH}{N ps:Su}{qual:Str}{scope:SL}{f:SM}{cd:SC}{A:SG}{outer:List Env}{s s1:SE}{H:Hp}{E:XK}{us:Sr}{vs:SX}
  (S:eG N ps scope) (hd:A.handled=none) (e0:DD P w K mg base A outer s H) (hl:vs.length=ps.length) (r:av vs us)
  (x:InCallC s s.heap.objs.size (bindL (envOfC qual scope s.heap.objs.size f cd).kindOf (ps.zip us) λ_=>none) (cellsFrom (s.heap.objs.size+1) scope.names []) (bindC (envOfC qual scope s.heap.objs.size f cd).kindOf (ps.zip us) λ_=>none) s1) :
  Inv (lq CX P w K mg base N qual scope f cd A outer s H E) [] (start N vs) H s1:=by
 have iO:ps.length<=N.length:=by have:=OZ List.length S.pre;rw[Pk]at this;omega
 obtain⟨h1,tk,rfl,hk⟩:=x.done;have Bo:∀b:SM,b∉(lq CX P w K mg base N qual scope f cd A outer s H E).ex:=λb z=>absurd (show b∈([]:Sv)from z) (by simp);refine⟨⟨e0.mod,S.kind,rfl,rfl,h_ _,λy z c h1 h2=>?_,λy hy=>?_,λy c _ h=>?_,λ_=>hd,Around.frames_deeper e0.frames,.inr ⟨rfl,rfl⟩,λb z=>absurd z (Bo b),e0.bs,e0.bsz,λb _ _=>Bo b,λb z=>absurd z (Bo b),e0.funs,e0.frf,e0.tb⟩,
  rfl,e0.bare,Un.kept hk,⟨_,x.toInCall.ns,λi y v h1 h2 h3=>?_⟩,λy c h=>⟨_,x.cell y c h⟩,e0.hok.fresh (h_ _),λy c h=>?_,λp hp=>absurd (show p∈([]:Sk)from hp) (by simp),e0.hok.kept hk,?_⟩
 .exact name_of_addr x.apart (OG h1) (OG h2)
 .have hy:scope.names.lookup y=some .cell\/scope.names.lookup y=some .free:=hy;rcases hy with hy | hy
  .exact qU hy
  .exact absurd rfl (S.nofree _ (OG hy))
 .exact Pl (x.above y c (OG h))
 .have hi:i<vs.length:=by
   unfold start at h2
   by_cases hi:i<vs.length
   .exact hi
   .rw[J_ (by simpa using hi)]at h2;rw[OO]at h2
    split at h2<;>cases h2
  have ha:vs[i]?=some v:=by
   unfold start at h2;rw[N_ (by simpa using hi),m_]at h2;cases e:vs[i]? with
   | none=>rw[e]at h2;cases h2
   | some a=>rw[e]at h2;cases h2;rfl
  obtain⟨u,hu,rv⟩:=r.get ha;have hp:ps[i]?=some y:=by
   rw[<- S.pre,List.getElem?_take_of_lt (by omega)];exact h1
  have Nz:ps.Nodup:=by rw[<- S.pre];exact S.nd.sublist (List.take_sublist _ _)
  refine⟨u,rv,?_⟩;rcases S.par y (Ox hp)with k | k
  .exact .inl ⟨k,oP Nz hp hu k⟩
  .obtain⟨c,e⟩:=qU (n:=s.heap.objs.size+1) k;refine .inr ⟨.inl k,c,e,?_⟩;have q:=x.cell y c e;rw[oU Nz hp hu (by show scope.names.lookup y≠_;rw[k];decide)]at q;exact q
 .exact e0.hok.fresh (Pl (x.above y c (OG h)))
 .unfold start;show _=N.length;rw[t_,c_,PN];omega
theorem DY{CX:CXT}{P:SF}{w:SI}{K:SB}{mg:Sm}{base:SH}{k:Nat}{f:SM}{name qual:Str}{params:Arguments}{body:Sx}{scope:SL}{dV kV doc pm dU ct oc:SC}{an od:Ss}
  {Bp:Sl} {N ps:Su} {sp:Sp} (lk:K.lookup f=some ⟨oc,od,.func (PySem.W.fnOf name qual params body scope dV kV doc pm an dU ct),Bp⟩) (iP:PySem.W.codeIn K dU qual=true) (S:eG N ps scope)
  (len:∀vs H Q E,sp vs H Q E->vs.length=ps.length)
  (hbody:∀(A:SG)(outer:List Env)(s:SE)(H:Hp)(vs:SX)(Q:VK)(E:XK),b8 k (A.deeper (envOfC qual scope s.heap.objs.size f dU))->sp vs H Q E->
   ∃t,nJ (lq CX P w K mg base N qual scope f dU A outer s H E) body t/\t {nx:=λ_ H'=>Q .non H',rt:=Q} (start N vs) H) :
  ir P w K mg base CX (k+1) f (PySem.W.fnOf name qual params body scope dV kV doc pm an dU ct) ps sp:=by
 refine⟨len,λA outer s H args us vs Q E hr e0 hb r uP=>?_⟩;have hl:=len _ _ _ _ uP;have KX:K.In s.heap:=e0.mod.kin.keeps λb o e=>(e0.bs b o e).1;have lim:s.heap.NoLimit:=e0.mod.nolimit.keeps λb o e=>(e0.bs b o e).1;have bJ:∀y∈ps.zip us,scope.names.lookup y.1=some .local\/(scope.names.lookup y.1=some .cell/\((cellsFrom (s.heap.objs.size+1) scope.names []).lookup y.1).isSome=true):=λ⟨n,v⟩ hy=>by
  rcases S.par n (Ro hy).1 with q | q
  .exact .inl q
  .exact .inr ⟨q,PySem.W.cellsFrom_some _ _ _ (.inl q)⟩
 refine codeAny_call_function hr.depth (KX _ _ lk) rfl S.co S.gen rfl (PySem.W.codeRec_of KX iP) (hb _ _ _ _ ?_);refine wpAny_newFunctionEnv_cells S.kind bJ λenv he s1 x=>?_;subst he;refine⟨lim.keeps x.toInCall.keep,codeAny_func ?_⟩;obtain⟨t,ht,hq⟩:=hbody A outer s H vs Q E (hr.deeper _) uP;have I:Inv (lq CX P w K mg base N qual scope f dU A outer s H E) [] (start N vs) H s1:=xF S hr.hd e0 hl r x;refine OX (ht [] s1 (start N vs) H _ I hq) (λfl s' hs=>?_) λe s' hs=>hs;have fin:∀{σ':St}{H':Hp}{v:V}{u:SC},Inv (lq CX P w K mg base N qual scope f dU A outer s H E) [] σ' H' s'->RelV v u->Q v H'->CE outer P w H s Q u s':=
  λ{σ' H' v u} J rv q=>⟨v,H',J.os,J.bare,J.base,J.hok,rv,q⟩
 cases fl with
 | ret u=>
  obtain⟨v,σ',H',J,rv,q⟩:=hs;exact fin J rv q
 | next=>
  obtain⟨σ',H',J,q⟩:=hs;exact fin (v:=V.non) (u:=Value.none) J rfl q
 | brk=>
  obtain⟨_,_,_,q⟩:=hs;exact False.elim q
 | cont=>
  obtain⟨_,_,_,q⟩:=hs;exact False.elim q
section
variable {X:Cx}{x:Str}{p pos:Pos}{e:SN}{es:Sw}{t:TA}{id T:String}{r:SX->Hp->VK->Prop}
def KA(r:SX->Hp->VK->Prop)(t:TA):TE:=λσ H Q=>t σ H λvs H1=>r vs H1 Q
theorem jj(hc:dq X (.builtin id) r)(hg:Gl X x)(hm:X.mg x=none)(hv:bootBuiltins x=some (.builtin id))(ha:PA X (e::es) t)(hn:x≠"__name__":=by decide)(sS:(x==("__debug__":Str))=false:=by decide)
  (he:starEach (e::es) X.env=(false,eval e X.env)::starEach es X.env:=by rfl) (iO:(backTo pos (starEach es X.env)).any (·.1)=false:=by rfl):PE X (.Call (.Name x p) (e::es) [] pos) (KA r t):=by
 intro pins s σ H Q I h;refine P9 (gM I hg hm hv ?_ hn sS);exact PyProof.Rows.callWith_builtin1 (br (ha pos pins s σ H _ I h) λus s1 ⟨vs,H1,I1,r1,q1⟩=>hc pins s1 σ H1 vs us Q I1 r1 q1) he iO
theorem xG(hc:dq X (.type T) r)(hg:Gl X x)(hm:X.mg x=none)(hv:bootBuiltins x=some (.type T))(ha:PA X (e::es) t)(hn:x≠"__name__":=by decide)(sS:(x==("__debug__":Str))=false:=by decide)
  (he:starEach (e::es) X.env=(false,eval e X.env)::starEach es X.env:=by rfl) (iO:(backTo pos (starEach es X.env)).any (·.1)=false:=by rfl):PE X (.Call (.Name x p) (e::es) [] pos) (KA r t):=by
 intro pins s σ H Q I h;refine P9 (gM I hg hm hv ?_ hn sS);exact Pe (br (ha pos pins s σ H _ I h) λus s1 ⟨vs,H1,I1,r1,q1⟩=>hc pins s1 σ H1 vs us Q I1 r1 q1) he iO
end
end L2
namespace HT
open PySem PyProof.Rows
theorem rf(A:SG)(s:SE)(a:Int)(t:Tok)(c:Int)(u:Tok)(prog:SF)(w:SI)(E:Sj)(Q:Sj)(h:Q (.bool (decide (a<c))) s) :
  wpAny (model prog w) A (richCompare .Lt (.int a t) (.int c u)) Q E s:=
 (PyProof.Rows.lt_int h:wpAny (model prog w) A (compareOp .Lt (.int a t) (.int c u)) Q E s)
section
open PySem.SeqAt
open PySem.AutoSeq1 (wpAny_loadPart')
open PySem.MeetsSeq PySem.MeetsSeq2 PySem.MeetsSeq3
end
section
variable {prog:SF}{w:SI}{A:SG}{E:Sj}{s:SE}
theorem BD{t b:SM}{vs ws:Sr}{Q:Sj}(ht:IsTup s.heap t vs.toArray)(hb:IsTup s.heap b ws.toArray)(hv:vs≠[])
  (h1:ws=[]->Q (.ref t) s) (h2:ws≠[]->Q (.ref s.heap.objs.size) {s with heap:=s.heap.push {cls:=.type "tuple",data:=.seq (vs++ws).toArray}})
  (hsz:vs.length+ws.length<=sizeLine):wpAny (model prog w) A (binaryOp .Add (.ref t) (.ref b)) Q E s:=by
 obtain⟨⟨cls,dd,data,sl⟩,ho,hc,n,hd⟩:=id ht;obtain⟨⟨G2,DE,data2,Bq⟩,Br,qI,n2,hd2⟩:=id hb;simp only at hc hd qI hd2;subst hc hd qI hd2;have e:vs.toArray++ws.toArray=(vs++ws).toArray:=by simp
 by_cases hw:ws=[]
 .exact concat_meets ⟨_,ho,rfl⟩ ⟨_,Br,rfl⟩ noFill_tuple_add seq_tuple_add QU QN (Qx _ _)
   (tuple_addW1 t b vs.toArray ws.toArray n n2 dd DE sl Bq (by simpa using hv) (by simp[hw])) ⟨ho,Br,h1 hw⟩
 .refine concat_meets ⟨_,ho,rfl⟩ ⟨_,Br,rfl⟩ noFill_tuple_add seq_tuple_add QU QN (Qx _ _)
   (tuple_addW2 t b vs.toArray ws.toArray n n2 dd DE sl Bq (by simpa using hv) (by simpa using hw) (by rw[p_,p_];exact hsz)) ⟨ho,Br,?_⟩
  rw[e];exact h2 hw
def cO(n d:Nat):Option Int->Nat
 | none=>d
 | some v=>if v<0 then(v+(n:Int)).toNat else min v.toNat n
theorem yt(n d:Nat):cO n d none=d:=rfl
theorem vB(n d k:Nat):cO n d (some (k:Int))=min k n:=by
 show(if(k:Int)<0 then((k:Int)+(n:Int)).toNat else min (k:Int).toNat n)=min k n;rw[l_ (by omega),OC]
theorem Gh(n d:Nat)(hd:d<=n)(o:Option Int):cO n d o<=n:=by
 cases o with
 | none=>exact hd
 | some v=>
  show(if v<0 then(v+(n:Int)).toNat else min v.toNat n)<=n
  by_cases hv:v<0
  .rw[k_ hv];omega
  .rw[l_ hv];exact Nat.min_le_right _ _
theorem vK(v:Int)(n d:Nat):(if v<0 then max (v+(n:Int)) 0 else min v (n:Int))=((cO n d (some v):Nat):Int):=by
 show(if v<0 then max (v+(n:Int)) 0 else min v (n:Int))=(((if v<0 then(v+(n:Int)).toNat else min v.toNat n):Nat):Int)
 by_cases hv:v<0
 .simp only[k_ hv];omega
 .simp only[l_ hv];omega
theorem ud(lo hi:Option Int)(n:Nat):Builtin.Slice.sliceAdjust lo hi 1 (n:Int)=(((cO n 0 lo:Nat):Int),((cO n n hi:Nat):Int)):=by
 have h1:¬((1:Int)<0):=by omega
 unfold Builtin.Slice.sliceAdjust;simp only[h1,OS];refine Prod.ext ?_ ?_
 .cases lo with
  | none=>rfl
  | some v=>exact vK v n 0
 .cases hi with
  | none=>rfl
  | some v=>exact vK v n n
theorem tV(i j:Nat):Builtin.Slice.slicePlaces (i:Int) (j:Int) 1=j-i:=by
 unfold Builtin.Slice.slicePlaces;have h1:(1:Int)>0:=by omega
 simp only[h1,PV,Int.ediv_one]
 split<;>omega
theorem mF{v:SC}{o:Option Int}{Q:Option Int->SE->Prop}(p:IsPart v o)(h:Q o s):wpAny (model prog w) A (Builtin.Slice.slicePartIndex v) Q E s:=by
 cases p with
 | none=>exact slicePart_none h
 | int i t=>exact slicePart_int h
theorem j7{sl:SM}{vl vu:SC}{lo hi:Option Int}{n:Nat}{Q:Int×Int×Nat->SE->Prop}(hs:s.heap.IsSliceOf sl vl vu .none)(pl:IsPart vl lo)(pu:IsPart vu hi)
  (h:Q (((cO n 0 lo:Nat):Int),1,cO n n hi-cO n 0 lo) s):wpAny (model prog w) A (Builtin.Slice.sliceApplied (.ref sl) (pure (n:Int))) Q E s:=by
 obtain⟨os,hos,NA,KQ⟩:=id hs;unfold Builtin.Slice.sliceApplied Builtin.Slice.sliceFields;refine a_ (a_ (Pj hos KQ (x:=vl) rfl (a_ (Pj hos KQ (x:=vu) rfl (a_ (Pj hos KQ (x:=.none) rfl (d_ ?_)))))));refine a_ (slicePart_none ?_);show wpAny _ _ (if((1:Int)==0)=true then _ else _) _ _ s;rw[l_ (by decide)];refine a_ (mF pl (a_ (mF pu (a_ (d_ ?_)))));show wpAny _ _ (match Builtin.Slice.sliceAdjust lo hi 1 (n:Int)with | (lo,hi)=>pure (lo,(1:Int),Builtin.Slice.slicePlaces lo hi 1)) _ _ s;rw[ud lo hi n];show wpAny _ _ (pure (((cO n 0 lo:Nat):Int),(1:Int),Builtin.Slice.slicePlaces ((cO n 0 lo:Nat):Int) ((cO n n hi:Nat):Int) 1)) _ _ s;rw[tV];exact d_ h
theorem Ah(xs:Array SC)(i k:Nat):((List.range k).filterMap λ(m:Nat)=>xs[((i:Int)+(m:Int)*1).toNat]?).toArray=((xs.toList.drop i).take k).toArray:=by
 have e:(λ(m:Nat)=>xs[((i:Int)+(m:Int)*1).toNat]?)=λm=>xs[i+m]?:=by
  funext m;have:((i:Int)+(m:Int)*1).toNat=i+m:=by omega
  rw[this]
 rw[e];have:=pick_run xs i k;rw[RB]at this;have e2:((λx=>xs[x]?) ∘ λx=>i+x)=λm=>xs[i+m]?:=rfl;rw[e2]at this;rw[this]
theorem jg{t sl:SM}{items:Array SC}{vl vu:SC}{lo hi:Option Int}{Q:Sj}(ht:IsTup s.heap t items)(hs:s.heap.IsSliceOf sl vl vu .none)(pl:IsPart vl lo)(pu:IsPart vu hi)
  (hw:¬(cO items.size 0 lo=0/\cO items.size items.size hi=items.size))
  (h:Q (.ref s.heap.objs.size) {s with heap:=s.heap.push {cls:=.type "tuple",data:=.seq ((items.toList.drop (cO items.size 0 lo)).take (cO items.size items.size hi-cO items.size 0 lo)).toArray}})
  (hsz:items.size<=sizeLine):wpAny (model prog w) A (getItem (.ref t) (.ref sl)) Q E s:=by
 have wq:sizeOk (.seq ((items.toList.drop (cO items.size 0 lo)).take (cO items.size items.size hi-cO items.size 0 lo)).toArray):=by
  show((items.toList.drop (cO items.size 0 lo)).take (cO items.size items.size hi-cO items.size 0 lo)).toArray.size<=sizeLine;rw[p_,Pk,RX,OF];omega
 have hj:cO items.size items.size hi<=items.size:=Gh _ _ (h_ _) hi;obtain⟨os,hos,NA,KQ⟩:=id hs;have hTs:s.TypeIs (.ref sl) "slice":=⟨os,hos,NA⟩;unfold getItem
 try with_reducible refine K_ ?_
 first | refine a_ (d_ ?_) | skip
 refine a_ (wpAny_sequenceKey ht.typeIs (by decide) ?_);refine a_ (OP (name:="__getitem__") ht.typeIs P1
  (OE P1 ht.typeIs entry_tuple_getitem ?_ (args_tuple_getitem _ _)))
 show wpAny _ _ (Builtin.Tuple.tupleItemsOf (.ref t) >>= _) _ _ s;refine a_ (tupleItemsOf_ ht ?_);refine a_ (wpAny_typeOf hTs ?_);rw[k_ (by decide)];refine a_ (j7 hs pl pu ?_);have KR:¬((((cO items.size 0 lo:Nat):Int)==0&&(1:Int)==1&&(cO items.size items.size hi-cO items.size 0 lo)==items.size)=true):=by
  intro q;rw[A_,A_]at q;have q1:((cO items.size 0 lo:Nat):Int)=0:=eq_of_beq q.1.1;have q2:cO items.size items.size hi-cO items.size 0 lo=items.size:=eq_of_beq q.2;exact hw ⟨by omega,by omega⟩
 show wpAny _ _ (if(((cO items.size 0 lo:Nat):Int)==0&&(1:Int)==1&&(cO items.size items.size hi-cO items.size 0 lo)==items.size)=true then _ else _) _ _ s;rw[l_ KR,Ah]
 first
  | exact a_ (m:=Builtin.Tuple.tupleExact _) (OI (d_ ⟨_,rfl,d_ h⟩) wq)
  | exact a_ (m:=Builtin.Tuple.tupleExact _) (OI (a_ (d_ (d_ ⟨_,rfl,d_ h⟩))) wq)
  | exact a_ (a_ (m:=Builtin.Tuple.tupleExact _) (OI (d_ (d_ ⟨_,rfl,d_ h⟩)) wq))
  | exact a_ (a_ (m:=Builtin.Tuple.tupleExact _) (OI (d_ ⟨_,rfl,d_ h⟩) wq))
end
end HT
namespace L2
open PySem PySem.Spec PyProof.Rows
abbrev TO:=St->Hp->(Option Int->Hp->Prop)->Prop
def PO(X:Cx)(e:Option SN)(t:TO):Prop:=
 ∀(pins:Sk)(s:SE)(σ:St)(H:Hp)(Q:Option Int->Hp->Prop),Inv X pins σ H s->t σ H Q->
  wpAny (model X.prog X.w) X.A (evalPart e X.env) (λu s'=>∃o H',Inv X pins σ H' s'/\IsPart u o/\Q o H') X.xe s
def tNoPart:TO:=λ_ H Q=>Q none H
def HZ(t:TE):TO:=λσ H Q=>t σ H λx H1=>∃i,x=.int i/\Q (some i) H1
section
variable {X:Cx}{e:SN}{te:TE}{lo hi:Option SN}{tl th:TO}{pos p2:Pos}
theorem CY:PO X none tNoPart:=by
 intro pins s σ H Q I h;rw[evalPart_none];exact d_ ⟨none,H,I,.none,h⟩
theorem vC(h:PE X e te):PO X (some e) (HZ te):=by
 intro pins s σ H Q I hw;rw[evalPart_some];refine br (h pins s σ H _ I hw) λu s1 ⟨x,H1,I1,r1,q1⟩=>?_;obtain⟨i,rfl,q⟩:=q1;obtain⟨t,rfl⟩:=r1;exact⟨some i,H1,I1,.int i t,q⟩
def Lq(X:Cx)(r:V->Option Int->Option Int->Hp->VK->Prop):Prop:=
 ∀(pins:Sk)(s:SE)(σ:St)(H:Hp)(x:V)(v vl vu:SC)(lo hi:Option Int)(sl:SM)(Q:VK),Inv X pins σ H s->RelV x v->s.heap.IsSliceOf sl vl vu .none->IsPart vl lo->IsPart vu hi->r x lo hi H Q->
  ∃T id,typeLookup (.type T) "__getitem__"=pure (some (.builtin id))/\s.TypeIs v T/\wpAny (model X.prog X.w) X.A (getItem v (.ref sl)) (EP X pins σ Q) X.xe s
def Oa(r:V->Option Int->Option Int->Hp->VK->Prop)(te:TE)(tl th:TO):TE:=λσ H Q=>te σ H λx H1=>tl σ H1 λl H2=>th σ H2 λu H3=>r x l u H3 Q
theorem sx{r:V->Option Int->Option Int->Hp->VK->Prop}(hr:Lq X r)(he:PE X e te)(hl:PO X lo tl)(hu:PO X hi th):PE X (.Subscript e (.Slice lo hi none p2) pos) (Oa r te tl th):=by
 intro pins s σ H Q I h;refine Subscript_ (br (he pins s σ H _ I h) λv s1 ⟨x,H1,I1,r1,q1⟩=>?_);refine wpAny_Slice (br (hl pins s1 σ H1 _ I1 q1) λvl s2 ⟨l,H2,I2,pl,q2⟩=>br (hu pins s2 σ H2 _ I2 q2) λvu s3 ⟨u,H3,I3,pu,q3⟩=>?_);rw[evalPart_none];refine d_ ?_;have I4:Inv X pins σ H3 {s3 with heap:=s3.heap.push {cls:=.type "slice",data:=.fields #[vl,vu,.none]}}:=I3.kept (t':=s3.toks) λb ob q=>e_ _ q;obtain⟨T,id,hT,ht,hg⟩:=hr pins {s3 with heap:=s3.heap.push {cls:=.type "slice",data:=.fields #[vl,vu,.none]}} σ H3 x v vl vu l u s3.heap.objs.size Q I4 r1 (Heap.IsSliceOf.new ..) pl pu q3;show wpAny (model X.prog X.w) X.A (subscriptTail e (.Slice lo hi none p2) v (.ref s3.heap.objs.size)) (EP X pins σ Q) X.xe {s3 with heap:=s3.heap.push {cls:=.type "slice",data:=.fields #[vl,vu,.none]}};exact tail_any (ops:=[.ref s3.heap.objs.size,v]) ht hT hg (by with_unfolding_all rfl)
def qi(xs:SX)(lo hi:Option Int):SX:=(xs.drop (HT.cO xs.length 0 lo)).take (HT.cO xs.length xs.length hi-HT.cO xs.length 0 lo)
theorem kC(xs:SX)(lo hi:Option Int):(qi xs lo hi).length<=xs.length:=by
 unfold qi;rw[Pk,RX];omega
def Lx(K:SB):V->Option Int->Option Int->Hp->VK->Prop:=λx lo hi H Q=>∃a xs,x=.ref a/\cH K H a xs/\
 ¬(HT.cO xs.length 0 lo=0/\HT.cO xs.length xs.length hi=xs.length)/\∀p,H p=none->Q (.ref p) (upd H p (.tup (qi xs lo hi)))
theorem EL:Lq X (Lx X.K):=by
 intro pins s σ H x v vl vu lo hi sl Q I rx hs pl pu h;obtain⟨a,xs,rfl,hx,hw,q⟩:=h;cases rx;obtain⟨aX,r,ht,hz⟩:=I.tuple hx;have hlen:aX.toArray.size=xs.length:=by rw[p_];exact r.length.symm
 refine⟨"tuple",_,P1.lookup,ht.typeIs,?_⟩;refine HT.jg ht hs pl pu (by rw[hlen];exact hw) ?_ (by rw[hlen];exact hz);rw[hlen];refine⟨.ref s.heap.objs.size,_,I.laid (t':=s.toks) (o:=.tup (qi xs lo hi)) (λb ob q=>e_ _ q) (h_ _) ?_,rfl,q _ (I.hok.fresh (h_ _))⟩;exact⟨C_ (kC xs lo hi) hz,_,(r.drop (HT.cO xs.length 0 lo)).take (HT.cO xs.length xs.length hi-HT.cO xs.length 0 lo),IsTup.new _ _⟩
def HQ(K:SB):R2:=λx y H Q=>∃a b xs ys,x=.ref a/\y=.ref b/\cH K H a xs/\cH K H b ys/\xs≠[]/\xs.length+ys.length<=sizeLine/\
 (ys=[]->Q (.ref a) H)/\(ys≠[]->∀p,H p=none->Q (.ref p) (upd H p (.tup (xs++ys))))
theorem av.nil_iff{xs:SX}{us:Sr}(r:av xs us):us=[]↔xs=[]:=by
 cases r with
 | nil=>simp
 | cons _ _=>simp
theorem Dx:ip X (binaryOp .Add) (HQ X.K):=by
 intro pins s σ H x y v u Q I rx ry h;obtain⟨a,b,xs,ys,rfl,rfl,ha,hb,hx,hz,q1,q2⟩:=h;cases rx;cases ry;obtain⟨aX,r1,p1,_⟩:=I.tuple ha;obtain⟨uQ,r2,p2,_⟩:=I.tuple hb;refine HT.BD p1 p2 (λz=>hx (r1.nil_iff.mp z)) (λz=>⟨.ref a,H,I,rfl,q1 (r2.nil_iff.mp z)⟩) (λz=>?_) (by rw[<- r1.length,<- r2.length];exact hz);refine⟨.ref s.heap.objs.size,_,I.laid (t':=s.toks) (o:=.tup (xs++ys)) (λb ob q=>e_ _ q) (h_ _) ?_,rfl,q2 (λw=>z (r2.nil_iff.mpr w)) _ (I.hok.fresh (h_ _))⟩;exact⟨by rw[t_];exact hz,_,r1.append r2,IsTup.new _ _⟩
end
def vU(n:Nat)(i:Int):Option Nat:=if 0<=i then(if i<n then some i.toNat else none)else if -(n:Int)<=i then some (i+n).toNat else none
def atI{α:Type}(xs:List α)(i:Int):Option α:=(vU xs.length i).bind λj=>xs[j]?
theorem u4{n:Nat}{i:Int}{j:Nat}(h:vU n i=some j):seqIndex? i n=some j/\j<n/\-(n:Int)<=i/\i<n:=by
 unfold vU at h
 by_cases h0:0<=i
 .rw[k_ h0]at h
  by_cases h1:i<n
  .rw[k_ h1]at h;have e:i.toNat=j:=Option.some.inj h;exact⟨by rw[seqIndex_of h0 h1,e],by omega,by omega,h1⟩
  .rw[l_ h1]at h;cases h
 .rw[l_ h0]at h
  by_cases h1:-(n:Int)<=i
  .rw[k_ h1]at h;have e:(i+n).toNat=j:=Option.some.inj h;exact⟨by rw[seqIndex_neg (by omega) h1,e],by omega,h1,by omega⟩
  .rw[l_ h1]at h;cases h
theorem uS{α:Type}{xs:List α}{i:Int}{v:α}(h:atI xs i=some v):∃j,seqIndex? i xs.length=some j/\xs[j]?=some v/\j<xs.length/\-(xs.length:Int)<=i/\i<xs.length:=by
 unfold atI at h;cases e:vU xs.length i with
 | none=>rw[e]at h;cases h
 | some j=>
  rw[e]at h;obtain⟨h1,h2,h3,h4⟩:=u4 e;exact⟨j,h1,h,h2,h3,h4⟩
theorem my{α:Type}(xs:List α)(v:α):atI (xs++[v]) (-1)=some v:=by
 have hl:(xs++[v]).length=xs.length+1:=by simp
 have e:vU (xs++[v]).length (-1)=some xs.length:=by
  unfold vU;rw[hl,l_ (by decide),k_ (by omega)];congr 1;omega
 unfold atI;rw[e];show(xs++[v])[xs.length]?=some v;simp
def wa(b:SN):Prop:=∀o i,subscripted b false o i=operate [o,i] (getItem o i)
def F6(X:Cx)(r:R2):Prop:=
 ∀(value slice:SN)(pins:Sk)(s:SE)(σ:St)(H:Hp)(x y:V)(v u:SC)(Q:VK),Inv X pins σ H s->RelV x v->RelV y u->r x y H Q->
  subscripted slice false v u=operate [v,u] (getItem v u)->wpAny (model X.prog X.w) X.A (subscriptTail value slice v u) (EP X pins σ Q) X.xe s
def LV(X:Cx)(id:String)(r:V->SX->Hp->VK->Prop):Prop:=
 ∀(pins:Sk)(s:SE)(σ:St)(H:Hp)(x:V)(xs:SX)(v:SC)(us:Sr)(Q:VK),Inv X pins σ H s->RelV x v->av xs us->r x xs H Q->
  wpAny (model X.prog X.w) X.A (call (.builtin id) (v::us)) (EP X pins σ Q) X.xe s
section
variable {X:Cx}{a b:SN}{ta tb:TE}{pos:Pos}
theorem F6.or{r r':R2}(h:F6 X r)(h':F6 X r'):F6 X (λx y H Q=>r x y H Q\/r' x y H Q):=by
 intro value slice pins s σ H x y v u Q I rx ry q hs;rcases q with q | q
 .exact h value slice pins s σ H x y v u Q I rx ry q hs
 .exact h' value slice pins s σ H x y v u Q I rx ry q hs
theorem HP{r:R2}(hr:F6 X r)(ha:PE X a ta)(hb:PE X b tb)(hs:wa b):PE X (.Subscript a b pos) (HD r ta tb):=by
 intro pins s σ H Q I h;exact Subscript_ (GI ha hb I h λv u s2 x y H2 I2 rx ry q=>hr a b pins s2 σ H2 x y v u Q I2 rx ry q (hs _ _))
def JB(K:SB):R2:=λx y H Q=>∃p xs i v,x=.ref p/\y=.int i/\cT K H p xs/\atI xs i=some v/\Q v H
def Jp(K:SB):R2:=λx y H Q=>∃p xs i v,x=.ref p/\y=.int i/\cH K H p xs/\atI xs i=some v/\Q v H
theorem Di:F6 X (JB X.K):=by
 intro value slice pins s σ H x y v u Q I rx ry h hs;obtain⟨p,xs,i,z,rfl,rfl,hq,he,q⟩:=h;cases rx;obtain⟨t,rfl⟩:=ry;obtain⟨aX,r,pl,hz⟩:=I.list hq;obtain⟨j,h1,h2,h3,h4,h5⟩:=uS he;obtain⟨w,ew,JZ⟩:=r.get h2;have hl:=r.length;have hn:=mP;have fin:EP X pins σ Q w s:=⟨z,H,I,JZ,q⟩
 by_cases h0:0<=i
 .have hj:i.toNat=j:=by
   rw[seqIndex_of h0 h5]at h1;exact Option.some.inj h1
  exact item_listR pl.isList h0 (by omega) (by rw[hj];simpa using ew) fin hs
 .have hj:(i+(aX.toArray.size:Int)).toNat=j:=by
   rw[seqIndex_neg (by omega) h4]at h1;rw[p_,<- hl];exact Option.some.inj h1
  exact subscriptTail_builtinR (x:=w) pl.isList.typeIs QV.lookup
   (wpAny_getItem_list_neg (Q:=λr s'=>r=w/\EP X pins σ Q r s') pl.isList (by omega) (by rw[p_]<;>omega) (by omega) (by rw[hj];simpa using ew) ⟨rfl,fin⟩) hs
theorem GT:F6 X (Jp X.K):=by
 intro value slice pins s σ H x y v u Q I rx ry h hs;obtain⟨p,xs,i,z,rfl,rfl,hq,he,q⟩:=h;cases rx;obtain⟨t,rfl⟩:=ry;obtain⟨aX,r,pl,hz⟩:=I.tuple hq;obtain⟨j,h1,h2,h3,h4,h5⟩:=uS he;obtain⟨w,ew,JZ⟩:=r.get h2;have hl:=r.length;have hn:=mP;have fin:EP X pins σ Q w s:=⟨z,H,I,JZ,q⟩;exact subscriptTail_builtinR (x:=w) pl.typeIs slot_tuple_getitem.lookup
  (getItem_tuple (j:=j) (Q:=λr s'=>r=w/\EP X pins σ Q r s') pl (by omega) (by omega) (by rw[p_,<- hl];exact h1) (by simpa using ew) ⟨rfl,fin⟩) hs
theorem tM(aX:Sr)(n j:Nat)(u:SC):Obj.mapSeq (·.setIfInBounds j u) {cls:=.type "list",data:=.seq aX.toArray n}={cls:=.type "list",data:=.seq (aX.set j u).toArray n}:=by
 simp[Obj.mapSeq]
theorem Inv.lst{pins:Sk}{σ:St}{H:Hp}{s:SE}{p:SM}{xs:SX}(I:Inv X pins σ H s)(h:H p=some (.lst xs)) :
  ∃(aX:Sr)(n:Nat),av xs aX/\s.heap.get? p=some {cls:=.type "list",data:=.seq aX.toArray n}/\xs.length<=sizeLine:=by
 obtain⟨z,aX,n,r,e⟩:=I.hok p _ h;exact⟨aX,n,r,e,z⟩
theorem Inv.lstUpd{pins:Sk}{σ:St}{H:Hp}{s:SE}{p:SM}{xs ys:SX}{aX its':Sr}{n n':Nat}{f:Obj->Obj}(I:Inv X pins σ H s)(h:H p=some (.lst xs))
  (ho:s.heap.get? p=some {cls:=.type "list",data:=.seq aX.toArray n}) (hf:f {cls:=.type "list",data:=.seq aX.toArray n}={cls:=.type "list",data:=.seq its'.toArray n'}) (r:av ys its') (hz:ys.length<=sizeLine) (t:Nat) :
  Inv X pins σ (upd H p (.lst ys)) {s with heap:=s.heap.update p f,toks:=t}:=by
 have e:(s.heap.update p f).get? p=some {cls:=.type "list",data:=.seq its'.toArray n'}:=by
  rw[Qg f ho (by rw[hf]<;>rfl),hf]
 refine I.write (x:=p) (e:=p) (by rw[h];trivial) (.inl rfl) (λb u hb q=>(Heap.get?_update_other _ _ (Pw hb)).trans q) ⟨_,e⟩ ?_;exact⟨hz,its',n',r,e⟩
def rSetL:V->V->V->Hp->(Hp->Prop)->Prop:=λo i v H Q=>∃p xs k j,o=.ref p/\i=.int k/\H p=some (.lst xs)/\vU xs.length k=some j/\Q (upd H p (.lst (xs.set j v)))
theorem set_list:Jj X rSetL:=by
 intro pins s σ H o i v ov iv u Q I ro ri rv h;obtain⟨p,xs,k,j,rfl,rfl,hp,hj,q⟩:=h;cases ro;obtain⟨t,rfl⟩:=ri;obtain⟨aX,n,r,ho,hz⟩:=I.lst hp;obtain⟨h1,h2,h3,h4⟩:=u4 hj;have hl:=r.length;have hn:=mP;have I':Inv X pins σ (upd H p (.lst (xs.set j v))) {s with heap:=s.heap.update p (Obj.mapSeq (·.setIfInBounds j u))}:=
  I.lstUpd hp ho (tM aX n j u) (r.set rv j) (by rw[Sd];exact hz) s.toks
 by_cases h0:0<=k
 .have hk:k.toNat=j:=by
   rw[seqIndex_of h0 h4]at h1;exact Option.some.inj h1
  exact PySem.W.ki_setAt ho h0 (by omega) (by rw[p_,<- hl];exact h4) (by rw[hk];exact⟨_,I',q⟩)
 .have hk:(k+(aX.toArray.size:Int)).toNat=j:=by
   rw[seqIndex_neg (by omega) h3]at h1;rw[p_,<- hl];exact Option.some.inj h1
  exact PySem.W.ki_setBack ho (by omega) (by rw[p_,<- hl];exact h3) (by omega) (by rw[hk];exact⟨_,I',q⟩)
theorem qu(lo hi:Option Int)(n:Nat):(sliceBounds lo hi none n).1=((HT.cO n 0 lo:Nat):Int)/\(sliceBounds lo hi none n).2.1=((HT.cO n n hi:Nat):Int)/\(sliceBounds lo hi none n).2.2=1:=by
 refine⟨?_,?_,rfl⟩
 .cases lo with
  | none=>simp[sliceBounds,HT.cO]
  | some i=>
   simp only[sliceBounds,HT.cO,Option.getD_none,show(1:Int)>0 by decide,PV]
   by_cases h:i<0
   .simp only[h,PV]<;>omega
   .simp only[h,OS]<;>omega
 .cases hi with
  | none=>simp[sliceBounds,HT.cO]
  | some i=>
   simp only[sliceBounds,HT.cO,Option.getD_none,show(1:Int)>0 by decide,PV]
   by_cases h:i<0
   .simp only[h,PV]<;>omega
   .simp only[h,OS]<;>omega
theorem nK(aX:Sr)(lo hi:Option Int):slicePick aX.toArray lo hi none=((aX.drop (HT.cO aX.length 0 lo)).take (HT.cO aX.length aX.length hi-HT.cO aX.length 0 lo)).toArray:=by
 obtain⟨h1,h2,h3⟩:=qu lo hi aX.toArray.size;unfold slicePick;rw[h1,h2,h3];simp only[sliceRange_one,pick_run,p_]<;>rfl
def Me(K:SB):V->Option Int->Option Int->Hp->VK->Prop:=λx lo hi H Q=>∃a xs,x=.ref a/\cT K H a xs/\∀p,H p=none->Q (.ref p) (upd H p (.lst (qi xs lo hi)))
theorem BP:Lq X (Me X.K):=by
 intro pins s σ H x v vl vu lo hi sl Q I rx hs pl pu h;obtain⟨a,xs,rfl,hx,q⟩:=h;cases rx;obtain⟨aX,r,ht,hz⟩:=I.list hx;have hlen:=r.length;refine⟨"list",_,QV.lookup,ht.isList.typeIs,?_⟩;refine Qy ht.isList hs pl pu .none (by simp) ?_ (by rw[p_]<;>omega);rw[nK,<- hlen];refine⟨.ref s.heap.objs.size,_,I.laid (t':=s.toks) (o:=.lst (qi xs lo hi)) (λb ob q=>e_ _ q) (h_ _) ?_,rfl,q _ (I.hok.fresh (h_ _))⟩;exact⟨C_ (kC xs lo hi) hz,_,0,(r.drop (HT.cO xs.length 0 lo)).take (HT.cO xs.length xs.length hi-HT.cO xs.length 0 lo),n_ _ rfl⟩
theorem pX:dq X (.builtin "len") (λxs H Q=>∃p ys,xs=[.ref p]/\(cT X.K H p ys\/cH X.K H p ys)/\Q (.int ys.length) H):=by
 intro pins s σ H xs us Q I r h;obtain⟨p,ys,rfl,hq,q⟩:=h;obtain⟨u,rfl,rx⟩:=vals1 r;cases rx;have hn:=mP;rcases hq with hq | hq
 .obtain⟨aX,r',pl,hz⟩:=I.list hq;have hlen:=r'.length;exact Calls.call_len_list pl.isList (by simp only[p_]<;>omega) ⟨.int ys.length,H,I.tok _,⟨s.toks+1,by rw[p_,hlen]⟩,q⟩
 .obtain⟨aX,r',pl,hz⟩:=I.tuple hq;have hlen:=r'.length;exact len_tuple pl (by simp only[p_]<;>omega) ⟨.int ys.length,H,I.tok _,⟨s.toks+1,by rw[p_,hlen]⟩,q⟩
theorem qy:dq X (.type "list") (λxs H Q=>∃p ys,xs=[.ref p]/\(cT X.K H p ys\/cH X.K H p ys)/\∀l,H l=none->Q (.ref l) (upd H l (.lst ys))):=by
 intro pins s σ H xs us Q I r h;obtain⟨p,ys,rfl,hq,q⟩:=h;obtain⟨u,rfl,rx⟩:=vals1 r;cases rx;have fin:∀(aX:Sr),av ys aX->ys.length<=sizeLine->∀(h':SH)(c':Nat),(∀b o',s.heap.get? b=some o'->h'.get? b=some o')->
   h'.get? s.heap.objs.size=some {cls:=.type "list",dict:=none,data:=.seq aX.toArray c',slots:=#[]}->EP X pins σ Q (.ref s.heap.objs.size) {s with heap:=h'}:=λaX r' hz h' c' kp e=>
  ⟨.ref s.heap.objs.size,_,I.laid (t':=s.toks) kp (h_ _) (show bp X.prog X.w _ h' _ (.lst ys)from⟨hz,aX,c',r',e⟩),rfl,q _ (I.hok.fresh (h_ _))⟩
 rcases hq with hq | hq
 .obtain⟨aX,r',pl,hz⟩:=I.list hq;have hlen:=r'.length;obtain⟨o,ho,hc,n,hd⟩:=pl.isList;exact call_list_seq p (.inl rfl) ho hc hd (λh' c' kp e=>fin aX r' hz h' c' kp e) (by simp only[p_]<;>omega)
 .obtain⟨aX,r',pl,hz⟩:=I.tuple hq;have hlen:=r'.length;obtain⟨o,ho,hc,n,hd⟩:=pl;exact call_list_seq p (.inr rfl) ho hc hd (λh' c' kp e=>fin aX r' hz h' c' kp e) (by simp only[p_]<;>omega)
theorem nC:dq X (.type "tuple") (λxs H Q=>∃p ys,xs=[.ref p]/\((cT X.K H p ys/\∀l,H l=none->Q (.ref l) (upd H l (.tup ys)))\/(cH X.K H p ys/\Q (.ref p) H))):=by
 intro pins s σ H xs us Q I r h;obtain⟨p,ys,rfl,h⟩:=h;obtain⟨u,rfl,rx⟩:=vals1 r;cases rx;rcases h with ⟨hq,q⟩ | ⟨hq,q⟩
 .obtain⟨aX,r',pl,hz⟩:=I.list hq;have hlen:=r'.length;refine call_tuple_list pl.isList (λh' kp=>?_) (by simp only[p_]<;>omega);have I1:Inv X pins σ H {s with heap:=h'}:=I.kept (t':=s.toks) kp;have I2:Inv X pins σ (upd H h'.objs.size (.tup ys)) {s with heap:=h'.push {cls:=.type "tuple",data:=.seq aX.toArray}}:=
   I1.laid (t':=s.toks) (λb o e=>e_ _ e) (h_ _) (show bp X.prog X.w _ _ _ (.tup ys)from⟨hz,aX,r',IsTup.new _ _⟩)
  exact⟨.ref h'.objs.size,_,I2,rfl,q _ (I1.hok.fresh (h_ _))⟩
 .obtain⟨aX,r',pl,hz⟩:=I.tuple hq;exact call_tuple_same pl ⟨.ref p,H,I,rfl,q⟩
def Lc(K:SB)(T:String)(x:V)(H:Hp):Prop:=match x with
 | .str _=>T="str"
 | .int _=>T="int"
 | .ref p=>(T="list"/\∃xs,cT K H p xs)\/(T="tuple"/\∃o,K.lookup p=some o/\o.cls=.type "tuple"/\o.dict=none)\/
   (T="dict"/\((∃kvs,H p=some (.dK kvs))\/∃kvs,H p=some (.dT kvs)))\/(T="set"/\∃S n,H p=some (.set S n))
 | _=>False
theorem Au{pins:Sk}{σ:St}{H:Hp}{s:SE}{T:String}{x:V}{v:SC}(I:Inv X pins σ H s)(r:RelV x v)(ty:Lc X.K T x H) :
  s.TypeIs v T/\∀a,v=.ref a->∃ob,s.heap.get? a=some ob/\ob.dict=none:=by
 cases x with
 | str z=>
  obtain⟨t,rfl⟩:=r;cases(show T="str" from ty);exact⟨typeIs_str s z t,λ_ e=>nomatch e⟩
 | int i=>
  obtain⟨t,rfl⟩:=r;cases(show T="int" from ty);exact⟨typeIs_int s i t,λ_ e=>nomatch e⟩
 | ref p=>
  cases r;rcases ty with ⟨rfl,xs,hq⟩ | ⟨rfl,o,hk,hc,hd⟩ | ⟨rfl,hk⟩ | ⟨rfl,S,n,hk⟩
  .obtain⟨aX,_,pl,_⟩:=I.list hq;refine⟨pl.isList.typeIs,λa e=>?_⟩;cases e;obtain⟨o,n,e,c,hd,_⟩:=pl;exact⟨o,e,hd⟩
  .refine⟨⟨o,I.kIn p o hk,hc⟩,λa e=>?_⟩;cases e;exact⟨o,I.kIn _ o hk,hd⟩
  .have z:∃o,s.heap.get? p=some o/\o.ExactDict:=by
    rcases hk with ⟨kvs,hk⟩ | ⟨kvs,hk⟩
    .obtain⟨_,_,_,_,o,_,_,e,ex,_⟩:=I.hok p _ hk;exact⟨o,e,ex⟩
    .obtain⟨_,_,_,_,o,_,_,e,ex,_⟩:=I.hok p _ hk;exact⟨o,e,ex⟩
   obtain⟨o,e,ex⟩:=z;refine⟨⟨o,e,ex.1⟩,λa e2=>?_⟩;cases e2;exact⟨o,e,ex.2.1⟩
  .obtain⟨o,_,_,_,e,ex,_⟩:=I.hok p _ hk;refine⟨⟨o,e,ex.1⟩,λa e2=>?_⟩;cases e2;exact⟨o,e,ex.2.1⟩
 | _=>exact False.elim ty
def K9(K:SB)(T:String)(r:V->SX->Hp->VK->Prop)(to:TE):TE:=λσ H Q=>to σ H λx H1=>Lc K T x H1/\r x [] H1 Q
def N9(K:SB)(T:String)(r:V->SX->Hp->VK->Prop)(to:TE)(t:TA):TE:=λσ H Q=>to σ H λx H1=>Lc K T x H1/\t σ H1 λxs H2=>r x xs H2 Q
variable {o e:SN}{es:Sw}{to:TE}{t:TA}{name:Str}{apos bK:Pos}{T id:String}{r:V->SX->Hp->VK->Prop}
theorem GY(pa:PlainAttrs T)(slot:Slot T name id)(Mo:typeOf (.builtin id)=pure (.type "method_descriptor"))(hm:LV X id r)(ho:PE X o to)
  (gY:attributeBase o name X.env (eval o X.env)=eval o X.env:=by rfl) (gZ:(apos.endLine==bK.line)=true:=by rfl):PE X (.Call (.Attribute o name apos) [] [] bK) (K9 X.K T r to):=by
 intro pins s σ H Q I h;refine wpAny_Call_method0_late gY gZ (br (ho pins s σ H _ I h) λv s1 ⟨x,H1,I1,r1,ty,q1⟩=>?_);obtain⟨h1,h2⟩:=Au I1 r1 ty;exact⟨T,id,pa,slot,Mo,h1,h2,QW rfl (PySem.evalArgs_none (hm pins s1 σ H1 x [] v [] Q I1 r1 .nil q1))⟩
theorem AF(pa:PlainAttrs T)(slot:Slot T name id)(Mo:typeOf (.builtin id)=pure (.type "method_descriptor"))(hm:LV X id r)(ho:PE X o to)(ha:PA X (e::es) t)
  (gY:attributeBase o name X.env (eval o X.env)=eval o X.env:=by rfl)
  (uR:((backTo bK (starEach (e::es) X.env)).all (λx=>!x.1)&&(backToKw bK (keywordEach [] X.env)).all (λx=>x.1.isSome)
   && decide ((e::es).length+([]:List Keyword).length+(if([]:List Keyword).isEmpty then 0 else 1)<30))=true:=by rfl)
  (gZ:(apos.endLine==bK.line)=true:=by rfl) (hs:starEach (e::es) X.env=(false,eval e X.env)::starEach es X.env:=by rfl) (hplain:(backTo bK (starEach es X.env)).any (·.1)=false:=by rfl) :
  PE X (.Call (.Attribute o name apos) (e::es) [] bK) (N9 X.K T r to t):=by
 intro pins s σ H Q I h;refine wpAny_Call_method_late gY uR gZ rfl (br (ho pins s σ H _ I h) λv s1 ⟨x,H1,I1,r1,ty,q1⟩=>?_);obtain⟨h1,h2⟩:=Au I1 r1 ty;refine⟨T,id,pa,slot,Mo,h1,h2,?_⟩;have hA:=ha bK pins s1 σ H1 _ I1 q1;rw[hs]at hA ⊢;refine QW (by show(false||(backTo bK (starEach es X.env)).any (·.1))=false;rw[hplain]<;>rfl) (Calls.evalArgs_plain ?_);exact br hA λus s2 ⟨vs,H2,I2,r2,q2⟩=>hm pins s2 σ H2 x vs v us Q I2 r1 r2 q2
end
def Ly(X:Cx)(id:String)(r:V->SX->Hp->VK->Prop):Prop:=
 ∀(pins:Sk)(s:SE)(σ:St)(H:Hp)(x:V)(xs:SX)(v:SC)(us:Sr)(Q:VK),Inv X pins σ H s->RelV x v->av xs us->r x xs H Q->
  wpAny (model X.prog X.w) X.A (call (.builtin id) (v::us)) (EP X pins σ Q) X.xe s
theorem av.one:∀{x:V}{us:Sr},av [x] us->∃u,us=[u]/\RelV x u
 | _,_,.cons r .nil=>⟨_,rfl,r⟩
theorem av.two:∀{x y:V}{us:Sr},av [x,y] us->∃u v,us=[u,v]/\RelV x u/\RelV y v
 | _,_,_,.cons r (.cons q .nil)=>⟨_,_,rfl,r,q⟩
theorem av.rep{xs:SX}{us:Sr}(h:av xs us):∀k:Nat,av (List.replicate k xs).flatten (List.replicate k us).flatten
 | 0=>.nil
 | k+1=>by
  rw[OW,OW,Ph,Ph];exact av.append h (av.rep h k)
theorem foldl_rep(aX:Sr):∀(k:Nat)(acc:Sr),
  List.foldl (λx1 x2=>x1++x2) acc.toArray (List.replicate k aX.toArray)=(acc++(List.replicate k aX).flatten).toArray
 | 0,acc=>by simp
 | k+1,acc=>by
  have e:acc.toArray++aX.toArray=(acc++aX).toArray:=by simp
  have e2:(acc++aX)++(List.replicate k aX).flatten=acc++(List.replicate (k+1) aX).flatten:=by
   rw[OW,Ph,Po]
  rw[<- e2,<- foldl_rep aX k (acc++aX),<- e,OW,QE]
section
variable {X:Cx}{pins:Sk}{σ:St}{H:Hp}{s:SE}{l b:SM}{xs ys zs:SX}
theorem Inv.lset{aX its':Sr}{n:Nat}{f:Array SC->Array SC}{t':Nat}(I:Inv X pins σ H s)(hH:H l=some (.lst xs))
  (e:s.heap.get? l=some {cls:=.type "list",data:=.seq aX.toArray n}) (hf:f aX.toArray=its'.toArray) (hv:av ys its') (hz:ys.length<=sizeLine) :
  Inv X pins σ (upd H l (.lst ys)) {s with heap:=s.heap.update l (Obj.mapSeq f),toks:=t'}:=by
 have q:=PySem.IsL.update e f;rw[hf]at q;refine I.write (x:=l) (e:=l) (by rw[hH];exact trivial) (.inl rfl) (λb' u hb hu=>(Heap.get?_update_other s.heap (Obj.mapSeq f) (Pw hb)).trans hu) ⟨_,q⟩ ?_;exact⟨hz,its',_,hv,q⟩
theorem Inv.lnew{aX:Sr}{t':Nat}(I:Inv X pins σ H s)(hv:av ys aX)(hz:ys.length<=sizeLine) :
  Inv X pins σ (upd H s.heap.objs.size (.lst ys)) {s with heap:=s.heap.push {cls:=.type "list",data:=.seq aX.toArray},toks:=t'}:=
 I.laid (λ_ _ q=>e_ _ q) (h_ _) ⟨hz,aX,0,hv,n_ _ rfl⟩
theorem Inv.fresh(I:Inv X pins σ H s):H s.heap.objs.size=none:=I.hok.fresh (h_ _)
theorem Inv.lstM(I:Inv X pins σ H s)(hH:H l=some (.lst xs)):xs.length<=sizeLine/\∃(aX:Sr)(n:Nat),av xs aX/\xs.length=aX.length/\s.heap.get? l=some {cls:=.type "list",data:=.seq aX.toArray n}:=by
 obtain⟨z,aX,n,r,e⟩:=I.hok l _ hH;exact⟨z,aX,n,r,r.length,e⟩
theorem rC{n:Nat}(h:n<=sizeLine):Builtin.List.listTooLong n=false:=by
 unfold Builtin.List.listTooLong;exact Ot (by omega)
end
section
variable {X:Cx}
def rAppend:V->SX->Hp->VK->Prop:=λx vs H Q=>∃l xs y,x=.ref l/\vs=[y]/\H l=some (.lst xs)/\xs.length<sizeLine/\Q .non (upd H l (.lst (xs++[y])))
theorem nX:Ly X "list.append" rAppend:=by
 intro pins s σ H x vs v us Q I rx rv h;obtain⟨l,xs,y,rfl,rfl,hH,hz,q⟩:=h;cases rx;obtain⟨u,rfl,ru⟩:=rv.one;obtain⟨z,aX,n,r,hl,e⟩:=I.lstM hH;refine R8 F.slot_list_append ⟨_,e,rfl⟩ F.entry_list_append (F.args_list_append_2 _ _) (PySem.list_append l aX.toArray n u (by rw[p_];omega)) ⟨e,?_⟩;refine⟨.non,_,I.lset (its':=aX++[u]) hH e (by simp) (r.append (.cons ru .nil)) ?_,rfl,q⟩;rw[t_,PM];omega
def rExtend:V->SX->Hp->VK->Prop:=λx vs H Q=>∃l b xs zs,x=.ref l/\vs=[.ref b]/\H l=some (.lst xs)/\H b=some (.lst zs)/\xs.length+zs.length<=sizeLine/\Q .non (upd H l (.lst (xs++zs)))
theorem xf:Ly X "list.extend" rExtend:=by
 intro pins s σ H x vs v us Q I rx rv h;obtain⟨l,b,xs,zs,rfl,rfl,hH,hB,hz,q⟩:=h;cases rx;obtain⟨u,rfl,ru⟩:=rv.one;cases ru;obtain⟨z,aX,n,r,hl,e⟩:=I.lstM hH;obtain⟨z2,uQ,n2,r2,Mg,e2⟩:=I.lstM hB;have hsz:aX.toArray.size+uQ.toArray.size<=sizeLine:=by rw[p_,p_];omega
 have A0:¬(!aX.toArray.isEmpty&&Builtin.List.listTooLong (aX.toArray.size+uQ.toArray.size))=true:=by
  rw[rC hsz,Bool.and_false];exact F_
 refine R8 F.slot_list_extend ⟨_,e,rfl⟩ F.entry_list_extend (F.args_list_extend_2 _ _)
  (AutoSeq1.list_extend_list_list_0 l aX.toArray n b uQ.toArray n2 A0 (by rw[p_];omega) (by omega)) ⟨e,e2,?_⟩
 refine⟨.non,_,I.lset (its':=aX++uQ) hH e (by simp) (r.append r2) ?_,rfl,q⟩;rw[t_];omega
def rRep:R2:=λx y H Q=>∃l k xs,x=.ref l/\y=.int k/\H l=some (.lst xs)/\-(2 ^ 63)<=k/\k<2 ^ 63/\xs.length*k.toNat<=sizeLine/\
 ∀p,H p=none->Q (.ref p) (upd H p (.lst (List.replicate k.toNat xs).flatten))
theorem len_rep{α:Type}(xs:List α)(k:Nat):(List.replicate k xs).flatten.length=k*xs.length:=by
 induction k with
 | zero=>simp
 | succ k ih=>rw[OW,Ph,t_,ih,Nat.succ_mul,Nat.add_comm]
theorem Fk:ip X (binaryOp .Mult) rRep:=by
 intro pins s σ H x y v u Q I rx ry h;obtain⟨l,k,xs,rfl,rfl,hH,h1,h2,hz,q⟩:=h;cases rx;obtain⟨t,rfl⟩:=ry;obtain⟨z,aX,n,r,hl,e⟩:=I.lstM hH;have hlen:aX.toArray.size*k.toNat<=sizeLine:=by rw[p_,<- hl];exact hz
 have eT:¬aX.toArray.size*k.toNat>(2 ^ 63-1)/8:=by
  have:(sizeLine:Nat)<=(2 ^ 63-1)/8:=by decide
  omega
 have hfit:¬(!Builtin.List.listFitsIndex k)=true:=by
  rw[fitsIndex_both h1 h2];exact F_
 have A0:¬Builtin.List.listTooLong (aX.toArray.size*k.toNat)=true:=by
  rw[rC hlen];exact F_
 have hnew:List.foldl (λx1 x2=>x1++x2) #[] (List.replicate (if aX.toArray.isEmpty=true then 0 else k.toNat) aX.toArray)=(List.replicate k.toNat aX).flatten.toArray:=by
  have f0:∀m:Nat,List.foldl (λx1 x2=>x1++x2) #[] (List.replicate m aX.toArray)=(List.replicate m aX).flatten.toArray:=λm=>by
   have:=foldl_rep aX m [];rw[O_]at this;exact this
  rw[f0];cases aX with
  | nil=>simp
  | cons a r'=>rw[l_ (by simp)]
 refine wpAny_binaryOp_repeat_ref (T:="list") (U:="int") (by decide) ⟨_,e,rfl⟩ (λs'=>typeIs_int s' k t) noFill_list_mul F.fills_int_mul F.slot_int_rmul repeat_list F.slot_int_index.lookup
  (R8 F.slot_int_rmul (typeIs_int s k t) F.entry_int_rmul (F.args_int_rmul_2 _ _) (int___rmul___int_list k t l aX.toArray n)
   ⟨e,rfl,⟨_,e,rfl⟩,R8 F.slot_list_mul ⟨_,e,rfl⟩ F.entry_list_mul (F.args_list_mul_2 _ _) (AutoListH.list___mul___list_int_3 l aX.toArray n k t hfit eT A0) ⟨e,?_⟩⟩)
 rw[hnew];exact⟨.ref _,_,I.lnew (t':=s.toks) (r.rep k.toNat) (by rw[len_rep,QS];exact hz),rfl,q _ I.fresh⟩
end
section
variable {prog:SF}{w:SI}{A:SG}{E:Sj}{s:SE}
end
section
variable {X:Cx}
end
end L2
namespace Att
open PySem PySem.W PySem.Calls PyProof.Rows
theorem kR{P:Params}{h:SH}:∀(ns:Sz)(vs:Sr),WellAll P h vs (ns.map WData.int)->IntsAre vs ns:=by
 intro ns
 induction ns with
 | nil=>
  intro vs w;rw[R7]at w;cases w;exact .nil
 | cons n ns ih=>
  intro vs w;rw[G_]at w;cases w with
  | cons a b=>
   cases a;exact .cons _ _ (ih _ b)
theorem wW{l:OpenLaw}{n:Nat}(hn:l.most=some n){P:Params}{h:SH}{args:List WData}{vals:Sr}
  (nL:l.row.toRowW.claim.pre args=true) (Mp:WellAll P h vals args) :
  ∃a vs ns,vals=[Value.ref a]/\args=[WData.list (ns.map WData.int)]/\h.get? a=some {cls:=.type "list",data:=.seq vs.toArray}/\IntsAre vs ns/\ns.length<=n:=by
 have hsh:WShape.hasAll [] args [.list .int]=true:=(pre_splitW nL).1;have hc:l.pre.holds [] {args:=args}=true:=(pre_splitW nL).2;obtain⟨d,r,rfl,h1,h2⟩:=hasAllW_cons hsh;obtain rfl:=hasAllW_nil h2;obtain⟨xs,rfl,h3⟩:=hasW_list h1;obtain⟨ns,rfl⟩:=items_int h3;have hlen:ns.length<=n:=by
  unfold OpenLaw.pre at hc;have h4:(WTm.not (.lt (.lit (.int (n:Int))) (.len (.arg 0)))).holds [] {args:=[.list (ns.map .int)]}=true:=by
   have h4:=(holds_andW hc).1;rw[hn]at h4;exact h4
  have h5:=condW_of h4 (w_not (w_lt w_lit (w_len_list (w_arg rfl))));rw[c_]at h5;refine P4 λq=>?_;have q':(n:Int)<((ns.length:Nat):Int):=by omega
  first
   | (rw[v_ q']at h5;exact absurd h5 (by decide))
   | (simp at h5;omega)
 cases Mp with
 | cons w1 w2=>
  cases w2;cases w1 with
  | list ho kT=>exact⟨_,_,ns,rfl,rfl,ho,kR ns _ kT,hlen⟩
theorem xn(l:OpenLaw)(args:List WData):l.row.toRowW.claim.post args (.bool true) args=true:=
 postW_of (r:=l.row.toRowW) (X:=(true==true))
  (show WShape.has [] (.bool true) .bool=true by first | rfl | decide | simp[WShape.has,WShape.arms,WShape.armsAll])
  (show(WTm.eq .res (.lit (.bool true))).value [] {args:=args,res:=some (.bool true),after:=args}=some (.bool (true==true))from w_eq_bool (w_res rfl) w_lit) rfl
theorem sy{l:OpenLaw}{n:Nat}{q:SF}{loose:Su}{XP:Sm->SH->Prop}{YP:SI->SH->Prop}{d:DefRec}
  (hn:l.most=some n) (J5:d.params.defaults=[])
  (call:∀(w:SI)(s₀ s₁:SE)(mg mb:Sm)(fa:SM)(o:Obj)(pm cd doc:SC)(a:SM)(vs:Sr)(ns:Sz),
   Ground q loose [] XP w s₀ mg mb s₁.heap->YP w s₁.heap->
   s₁.heap.get? fa=some o->o.data=.func (docDef d.name d.params d.body d.scope pm cd doc)->s₁.heap.CodeRec cd d.name->mg d.name=some (.ref fa)->
   s₁.heap.get? a=some {cls:=.type "list",data:=.seq vs.toArray}->IntsAre vs ns->ns.length<=n->s₁.gens=#[]->
   codeAny (model l.prog w) callerA (.call (.ref fa) ⟨[.ref a],[]⟩) (λr s'=>r=.ok (.ret (.bool true))/\OldK s₁.heap s'.heap/\s'.os=s₁.os/\AllBare s'.gens) s₁) :
  WalkO q loose XP YP l.row.toRowW d [] (λf vs=>PySem.call f vs):=by
 intro w s₀ s₁ mg mb G Y fa o pm cd doc dV kV ho hd iP hD hmg hg args vals as nL hlay hrd Mp hlo;obtain rfl:dV=.none:=Dflts.none hD J5;obtain rfl:kV=.none:=Dflts.noKw hD;obtain⟨a,vs,ns,rfl,rfl,G3,hints,hlen⟩:=wW hn nL Mp;refine enter_call (codeAny_mono (call w s₀ s₁ mg mb fa o pm cd doc a vs ns G Y ho (fd_plain hd) iP hmg G3 hints hlen hg) λr s' hq=>?_);obtain⟨rfl,h2,h3,h4⟩:=hq;exact⟨.inl ⟨.bool true,.bool true,[],rfl,λ_=>rfl,.bool true,xn l _,λ_=>⟨List.Pairwise.nil,λ_ hm=>(nomatch hm)⟩⟩,h2,h3,h4⟩
section
variable {prog:SF}{w:SI}{A:SG}{E:Sj}{s:SE}{K:Frag}
end
end Att
namespace L2
open PySem PySem.Spec PyProof.Rows
theorem fF:∀{vs:Sr}{ns:Sz},IntsAre vs ns->av (ns.map V.int) vs
 | _,_,.nil=>.nil
 | _,_,.cons n t h=>.cons ⟨t,rfl⟩ (fF h)
def Gj(H:Hp):Prop:=∀b,H b=none\/(∃o xs,H b=some (.frz o (.lst xs)))\/∃q,H b=some (.tab q)
theorem AL{P:SF}{w:SI}{K:SB}{mg mb:Sm}{CX:CXT}{k:Nat}{fa a:SM}{fd:SJ}{x:Str}{sp:Sp}{s₁:SE}{vs:Sr}{ns:Sz}
  (KX:K.In s₁.heap) (ya:s₁.heap.Ns mainGlobals mg) (hb:s₁.heap.Ns builtinsNs mb) (Mq:∀x:Str,x≠"__name__"->mb x=bootBuiltins x) (hlim:s₁.heap.NoLimit) (hg:s₁.gens=#[])
  (hbm:∃bm o,mg "__builtins__"=some (.ref bm)/\bm≠builtinsNs/\s₁.heap.get? bm=some o/\o.cls=.type "module"/\o.dict=some builtinsNs/\o.data=.plain)
  (hT:∀P q,tq K P=some q->(∃c,PySem.W.CodeHd s₁.heap c P)/\s₁.heap.get? P=some (PySem.W.tabObj #[])/\K.lookup P=none)
  (ha:s₁.heap.get? a=some {cls:=.type "list",data:=.seq vs.toArray}) (hi:IntsAre vs ns) (hl:ns.length<=sizeLine) (hr:b8 k callerA)
  (F:∀base:SH,K.In base->base.Ns mainGlobals mg->ir P w K mg base CX k fa fd [x] sp) (hbind:∀(s:SE)(u:SC),BindsTo s fd ⟨[u],[]⟩ [(x,u)])
  (uP:∀H:Hp,Gj H->cT K H a (ns.map V.int)->sp [.ref a] H (λv _=>v=.bl true) λ_ _ _=>False)
  (hCX:∀H e s',CX [] H s₁ (λ_ _ _=>False) e s'->False) :
  codeAny (model P w) callerA (.call (.ref fa) ⟨[.ref a],[]⟩) (λr s'=>r=.ok (.ret (.bool true))/\OldK s₁.heap s'.heap/\s'.os=s₁.os/\AllBare s'.gens) s₁:=by
 have rv:=fF hi;have lenV:=hi.length;have tqa:∀b q,tq K b=some q->b≠a:=λb q e z=>by
  have h:=(hT b q e).2.1;rw[z,ha]at h;cases h
 have core:∀G:Option HO,(G=none\/∃o xs,G=some (.frz o (.lst xs)))->(∀H:Hp,H a=G->cT K H a (ns.map V.int))->(∀H o,G=some o->bp P w H s₁.heap a o)->(G≠none->K.lookup a=none)->
   codeAny (model P w) callerA (.call (.ref fa) ⟨[.ref a],[]⟩) (λr s'=>r=.ok (.ret (.bool true))/\OldK s₁.heap s'.heap/\s'.os=s₁.os/\AllBare s'.gens) s₁:=by
  intro G hG hS hok0 hK;generalize hH:(λb=>if b=a then G else(tq K b).map HO.tab:Hp)=H;have Ha:H a=G:=by rw[<- hH];exact k_ rfl
  have Hb:∀b,b≠a->H b=(tq K b).map HO.tab:=λb h=>by rw[<- hH];exact l_ h
  have Ht:∀b q,tq K b=some q->H b=some (.tab q):=λb q e=>by rw[Hb b (tqa b q e),e];rfl
  have Hs:∀b o,H b=some o->(b=a/\G=some o)\/∃q,tq K b=some q/\o=.tab q:=λb o e=>by
   by_cases h:b=a
   .exact .inl ⟨h,by rw[<- Ha,<- h];exact e⟩
   .rw[Hb b h]at e;obtain⟨q,e1,e2⟩:=Ow.mp e;exact .inr ⟨q,e1,e2.symm⟩
  have hO:Gj H:=λb=>by
   cases e:H b with
   | none=>exact .inl rfl
   | some o=>
    rcases Hs b o e with ⟨_,z⟩ | ⟨q,_,z⟩
    .rcases hG with g | ⟨ob,xs,g⟩
     .rw[g]at z;cases z
     .rw[g]at z;cases z;exact .inr (.inl ⟨_,_,rfl⟩)
    .exact .inr (.inr ⟨q,by rw[z]⟩)
  have hok:mw P w H s₁.heap:=λb o e=>by
   rcases Hs b o e with ⟨z,g⟩ | ⟨q,z,g⟩
   .subst z;exact hok0 H o g
   .subst g;exact⟨#[],(hT b q z).2.1,trivial,λpos v z=>by cases z⟩
  have qD:∀{b:SM}{o:Obj},s₁.heap.get? b=some o->H b=none->(qe s₁.heap H).get? b=some o:=λe n=>z6 e n;have Bo:∀{b:SM}{o:Obj},s₁.heap.get? b=some o->(∀xs n,o.data≠.seq xs n)->(∀xs,o.data≠.fields xs)->H b=none:=λ{b o} e d1 d2=>by
   cases q:H b with
   | none=>rfl
   | some u=>
    rcases Hs b u q with ⟨z,_⟩ | ⟨q,z,_⟩
    .subst z;rw[ha]at e;cases e;exact absurd rfl (d1 _ _)
    .have h:=(hT b q z).2.1;rw[h]at e;cases e;exact absurd rfl (d2 _)
  have KS:∀{b:SM}{m:Sm},s₁.heap.Ns b m->(qe s₁.heap H).Ns b m:=λ{b m} ⟨o,es,ep,e,d,r⟩=>⟨o,es,ep,qD e (Bo e (λ_ _ z=>by rw[d]at z;cases z) λ_ z=>by rw[d]at z;cases z),d,r⟩;have NB:K.In (qe s₁.heap H):=λb o e=>qD (KX b o e) (by
   cases q:H b with
   | none=>rfl
   | some u=>
    rcases Hs b u q with ⟨z,g⟩ | ⟨q,z,_⟩
    .subst z;rw[hK (by rw[g];simp)]at e;cases e
    .rw[(hT b q z).2.2]at e;cases e)
  have hM:Mod K mg (qe s₁.heap H):=by
   obtain⟨bm,o,b1,b2,b4,b5,b6,b7⟩:=hbm;refine⟨NB,KS ya,⟨mb,KS hb,Mq⟩,let ⟨mc,h1,h2⟩:=hlim;⟨mc,KS h1,h2⟩,bm,o,b1,b2,λz=>?_,qD b4 (Bo b4 (λ_ _ z=>by rw[b7]at z;cases z) λ_ z=>by rw[b7]at z;cases z),b5,b6,b7⟩;obtain⟨o',es,ep,e,hd,_⟩:=ya;rw[z,e]at b4;cases b4;rw[hd]at b7;cases b7
  have e0:DD P w K mg (qe s₁.heap H) callerA [] s₁ H:=⟨rfl,hM,λb o e=>Dz e,Nat.le_of_eq (wO _ _),trivial,λb hb=>absurd (show b∈([]:Sv)from hb) (by simp),hok,.of_eq hg,Ht⟩;refine codeAny_mono ((F _ NB (KS ya)).run callerA [] s₁ H ⟨[.ref a],[]⟩ [.ref a] [.ref a] _ _ hr e0 (hbind s₁ (.ref a)) (.cons rfl .nil) (uP H hO (hS H Ha))) λr s' h=>?_;cases r with
  | error e=>exact(hCX H e s' h).elim
  | ok fl=>
   cases fl with
   | next=>exact False.elim h
   | brk=>exact False.elim h
   | cont=>exact False.elim h
   | ret u=>
    obtain⟨v,H',os,bare,un,J6,r',q⟩:=h;have q':v=.bl true:=q;subst q';obtain rfl:u=Value.bool true:=r';have old:∀b o,s₁.heap.get? b=some o->s'.heap.get? b=some o\/∃q ps,tq K b=some q/\s'.heap.get? b=some (PySem.W.tabObj ps):=λb o e=>by
     cases q:H b with
     | none=>exact .inl (un.keep b o e q (by intro z;exact absurd (show b∈([]:Sv)from z) (by simp)) (by simp))
     | some u=>
      rcases Hs b u q with ⟨_,z⟩ | ⟨qq,z,g⟩
      .rcases hG with g | ⟨ob,xs,g⟩
       .rw[g]at z;cases z
       .rw[g]at z;cases z;have z2:=un.frzs b ob _ q;obtain⟨e1,_⟩:=hok b _ q;obtain⟨e2,_⟩:=J6 b _ z2;rw[e]at e1;cases e1;exact .inl e2
      .subst g;obtain⟨ps,e2,_⟩:=J6 b _ (un.tbls b qq q);exact .inr ⟨qq,ps,z,e2⟩
    refine⟨rfl,⟨λb o e=>?_,λb o e=>?_⟩,os,bare⟩
    .rcases old b o e with z | ⟨q,ps,z,e2⟩
     .exact .inl z
     .obtain⟨⟨c,hc⟩,h2,_⟩:=hT b q z;rw[h2]at e;cases e;exact .inr (.inl ⟨(hc.tab h2).isCodeTable,rfl,#[],ps,rfl,by rw[Array.empty_append];exact e2⟩)
    .rcases old b o e with z | ⟨q,ps,z,e2⟩
     .exact⟨o,z⟩
     .exact⟨_,e2⟩
 cases hk:K.lookup a with
 | some o=>
  have e:=KX a o hk;rw[ha]at e;cases e;exact core none (.inl rfl) (λH _=>.inr ⟨_,vs.toArray,_,hk,rfl,rfl,rfl,by rw[p_,lenV];exact hl,by simpa using rv⟩) (λH o z=>by cases z) λz=>absurd rfl z
 | none=>
  refine core (some (.frz {cls:=.type "list",data:=.seq vs.toArray} (.lst (ns.map V.int)))) (.inr ⟨_,_,rfl⟩) (λH e=>.inl (.inr ⟨_,e⟩)) (λH o z=>?_) λ_=>hk;cases z;exact⟨ha,by rw[c_];exact hl,vs,_,rv,ha⟩
def eF(s:SO):Arguments:=match s with
 | .FunctionDef _ a _ _ _ _ _ _ _ _=>a
 | _=>{posonlyargs:=[],args:=[],vararg:=none,kwonlyargs:=[],kw_defaults:=[],kwarg:=none,defaults:=[]}
def bV(s:SO):Sx:=match s with
 | .FunctionDef _ _ b _ _ _ _ _ _ _=>b
 | _=>[]
def aM(s:SO):SL:=match s with
 | .FunctionDef _ _ _ _ _ _ sc _ _ _=>sc
 | _=>{kind:=.function,names:=[],isGenerator:=false,isCoroutine:=false}
abbrev sH:CXT:=λ_ _ _ _ _ _=>False
abbrev E0:XK:=λ_ _ _=>False
theorem IZ{X:Cx}:tP sH X E0:=λ_ _ _ _ _ _ _ h=>h.elim
structure A2(K:PySem.W.Frag)(x qual:Str)(st:Stmt)(f:Addr)(fd:FuncData):Prop where
 ex:∃(oc:Value)(od:Option Addr)(kV doc pm:Value)(an:Option Addr)(dU ct:Value)(Bp:Array (Option Value)),
  fd=PySem.W.fnOf x qual (eF st) (bV st) (aM st) .none kV doc pm an dU ct/\K.lookup f=some ⟨oc,od,.func fd,Bp⟩/\PySem.W.codeIn K dU qual=true
 kp:PySem.W.keepIn K (.ref f)=true
section
variable {P:SF}{w:SI}{K:SB}{mg:Sm}{base:SH}
theorem A2.ok{x qual:Str}{st:SO}{f:SM}{fd:SJ}{N ps:Su}{k:Nat}{sp:Sp}(F:A2 K x qual st f fd)(S:eG N ps (aM st))(len:∀vs H Q E,sp vs H Q E->vs.length=ps.length)
  (hbody:∀(dU:SC)(A:SG)(outer:List Env)(s:SE)(H:Hp)(vs:SX)(Q:VK)(E:XK),b8 k (A.deeper (envOfC qual (aM st) s.heap.objs.size f dU))->sp vs H Q E->
   ∃t,nJ (lq sH P w K mg base N qual (aM st) f dU A outer s H E).nox (bV st) t/\t {nx:=λ_ H'=>Q .non H',rt:=Q} (start N vs) H):ir P w K mg base sH (k+1) f fd ps sp:=by
 obtain⟨oc,od,kV,doc,pm,an,dU,ct,Bp,rfl,lk,iP⟩:=F.ex;refine DY lk iP S len λA outer s H vs Q E hr uP=>?_;obtain⟨t,h,q⟩:=hbody dU A outer s H vs Q E hr uP;exact⟨t,h.nox,q⟩
theorem A2.binds{x qual:Str}{st:SO}{f:SM}{fd:SJ}{ps:Su}(F:A2 K x qual st f fd)
  (h:∀(kV doc pm:SC)(an:Ss)(dU ct:SC)(us:Sr),us.length=ps.length->bindArgs (PySem.W.fnOf x qual (eF st) (bV st) (aM st) .none kV doc pm an dU ct) ⟨us,[]⟩=pure (ps.zip us)):Binds K fd ps []:=by
 obtain⟨oc,od,kV,doc,pm,an,dU,ct,Bp,rfl,lk,iP⟩:=F.ex;exact .all (h kV doc pm an dU ct)
theorem zF{x qual:Str}{st:SO}{f:SM}{oc:SC}{od an:Ss}{Bp:Sl}{kV doc pm dU ct:SC}(l:K.lookup f=some ⟨oc,od,.func (PySem.W.fnOf x qual (eF st) (bV st) (aM st) .none kV doc pm an dU ct),Bp⟩)
  (c:PySem.W.codeIn K dU qual=true) (k:PySem.W.keepIn K (.ref f)=true):A2 K x qual st f (PySem.W.fnOf x qual (eF st) (bV st) (aM st) .none kV doc pm an dU ct):=⟨⟨oc,od,kV,doc,pm,an,dU,ct,Bp,rfl,l,c⟩,k⟩
end
theorem vj{A:SG}{k:Nat}(hr:b8 k A):A.units+1<cLine:=QL (Nat.add_le_add_left (by decide:1<=64) _) hr.units
theorem nY{n:Nat}(h:n<=1000):n<sizeLine:=QL h (by decide)
section
variable {X:Cx}
end
theorem wL{A B:Prop}(h:B):if false=true then A else B:=by
 rw[l_ F_];exact h
theorem xk{A B:Prop}(h:A):if true=true then A else B:=by
 rw[k_ rfl];exact h
def aK(H H':Hp):Prop:=∀b o,H b=some o->H' b=some o
theorem aK.refl(H:Hp):aK H H:=λ_ _ h=>h
theorem aK.trans{H H1 H2:Hp}(a:aK H H1)(b:aK H1 H2):aK H H2:=λc o h=>b c o (a c o h)
theorem aK.free{H H':Hp}(e:aK H H'){l:SM}(h:H' l=Option.none):H l=Option.none:=by
 cases q:H l with
 | none=>rfl
 | some o=>
  rw[e l o q]at h;cases h
theorem aK.seq{K:SB}{H H':Hp}{a:SM}{xs:SX}(e:aK H H')(h:cT K H a xs):cT K H' a xs:=by
 rcases h with (h | ⟨o,h⟩) | h
 .exact .inl (.inl (e _ _ h))
 .exact .inl (.inr ⟨o,e _ _ h⟩)
 .exact .inr h
section
variable {κ:Type}[DecidableEq κ]
end
theorem Ao{P:SF}{w:SI}{k:Key}{u:SC}(r:RelV (kV k) u):(aF P w).is k u=true:=by
 cases k with
 | inl i=>obtain⟨t,e⟩:=(show ∃t,u=Value.int i t from r);subst e;exact qY P w i t
 | inr x=>obtain⟨t,e⟩:=(show ∃t,u=Value.str x t from r);subst e;exact rN P w x t
theorem jQ{P:SF}{w:SI}:∀{ks:SR}{us:Sr},av (ks.map kV) us->ItemsAre (aF P w) ks us
 | [],_,r=>by rw[R7]at r;cases r;exact .nil
 | k::ks,_,r=>by
  rw[G_]at r;cases r with
  | cons h t=>exact .cons (Ao h) (jQ t)
section
variable {P:SF}{w:SI}{H:Hp}{h:SH}{a:SM}
end
section
variable {X:Cx}{pins:Sk}{σ:St}{H:Hp}{s:SE}{a:SM}{y v:V}{u r:SC}{o:Option V}{A:SG}{E:Sj}
theorem Inv.big(I:Inv X pins σ H s):sysModules<s.heap.objs.size:=by
 have h:mainGlobals<s.heap.objs.size:=(I.mod.glob.keeps I.bk).lt;exact Qn (by decide) h
end
section
variable {X:Cx}{pins:Sk}{σ:St}{H:Hp}{s:SE}{a:SM}{kvs:List (Key×V)}{k:Key}{u:SC}{A:SG}{E:Sj}
end
def Fu(i:SN):Prop:=∀ov iv,subscripted i false ov iv=operate [ov,iv] (getItem ov iv)
theorem Dw{prog:SF}{w:SI}{A:SG}{E:Sj}{s:SE}{env:Env}{value slice:SN}{pos:Pos}{T id:String}{Q:Sj}
  (hl:typeLookup (.type T) "__getitem__"=pure (some (.builtin id))) (hs:Fu slice)
  (h:wpAny (model prog w) A (eval value env) (λo s₁=>wpAny (model prog w) A (eval slice env) (λi s₂=>s₂.TypeIs o T/\wpAny (model prog w) A (getItem o i) Q E s₂) E s₁) E s) :
  wpAny (model prog w) A (eval (.Subscript value slice pos) env) Q E s:=by
 refine Subscript_ (OX h (λo s₁ h₁=>OX h₁ (λi s₂ h₂=>?_) λ_ _ x=>x) λ_ _ x=>x);obtain⟨hT,h₂⟩:=h₂;unfold subscriptTail;refine a_ ?_;rw[getitemInPython_of_ne hT.not_modules];refine a_ (Qb hT hl ?_);have fin:wpAny (model prog w) A (subscripted slice false o i) (λr s₃=>wpAny (model prog w) A (letTemporaryGo value o r >>= λ_=>pure r) Q E s₃) E s₂:=by
  rw[hs o i];exact wpAny_operating (OX h₂ (λr s₃ h₃=>a_ (wpAny_letTemporaryGo (d_ h₃))) λ_ _ x=>x)
 first
  | exact d_ (a_ fin)
  | exact a_ (d_ (a_ fin))
  | exact a_ fin
section
variable {X:Cx}{o i e value:SN}{pos pos' tpos:Pos}{td ty tv:TE}
end
section
variable {X:Cx}{pos:Pos}
end
structure M1(X:Cx)(o:Expr)(m:Str)(apos:Pos)(e:Expr)(bK:Pos):Prop where
 base:attributeBase o m X.env (eval o X.env)=eval o X.env
 few:((backTo bK (starEach [e] X.env)).all (λx=>!x.1)&&(backToKw bK (keywordEach [] X.env)).all (λx=>x.1.isSome)
  && decide (([e]:List Expr).length+([]:List Keyword).length+(if([]:List Keyword).isEmpty then 0 else 1)<30))=true
 line:(apos.endLine==bK.line)=true
 trees:backTo bK (starEach [e] X.env)=[(false,eval e X.env)]
structure M2(X:Cx)(o:Expr)(m:Str)(apos:Pos)(e f:Expr)(bK:Pos):Prop where
 base:attributeBase o m X.env (eval o X.env)=eval o X.env
 few:((backTo bK (starEach [e,f] X.env)).all (λx=>!x.1)&&(backToKw bK (keywordEach [] X.env)).all (λx=>x.1.isSome)
  && decide (([e,f]:List Expr).length+([]:List Keyword).length+(if([]:List Keyword).isEmpty then 0 else 1)<30))=true
 line:(apos.endLine==bK.line)=true
 trees:backTo bK (starEach [e,f] X.env)=[(false,eval e X.env),(false,eval f X.env)]
def N5(H:Hp)(a:SM):Prop:=(∃kvs,Rd H a (.dK kvs))\/∃kvs,Rd H a (.dT kvs)
section
variable {X:Cx}{pins:Sk}{σ:St}{H:Hp}{s:SE}{a:SM}{y d:V}{u r:SC}{o:Option V}{A:SG}{E:Sj}
end
section
variable {X:Cx}{o e f:SN}{apos bK:Pos}{td ty tx:TE}
end
section
variable {X:Cx}{pins:Sk}{σ:St}{H:Hp}{s:SE}{a:SM}{kvs:List (Key×V)}{A:SG}{E:Sj}
end
section
variable {X:Cx}{pins:Sk}{σ:St}{H:Hp}{s:SE}{a:SM}{y:V}{u:SC}{A:SG}{E:Sj}
end
end L2
namespace St
open PySem L2
theorem B2(n:Nat)(h:carriedByValue v=true):ofAClassStatement n v=pure false:=by
 cases v with
 | ref a=>simp[carriedByValue]at h
 | _=>first | rfl | (unfold ofAClassStatement;rfl) | (cases n<;>rfl)
theorem Cg(n:Nat)(h:iN k v=true):∃b,hashByValue n v=pure b:=by
 rcases a7 h with ⟨i,t,rfl,rfl⟩ | ⟨x,t,rfl,rfl⟩
 .exact⟨true,by cases n<;>simp[hashByValue]⟩
 .exact⟨false,by cases n<;>simp[hashByValue]⟩
theorem Aj:SK (tupleKind (aF prog w)) where
 cls:=λ{A E s k a Q} hk h=>by
  have hT:s.TypeIs (.ref a) "tuple":=IsTupleKey.typeIs hk;obtain⟨o,items,n,ho,_,hd,hi⟩:=hk;unfold ofAClassStatement;refine a_ (wpAny_typeOf hT ?_);dsimp only;simp only[beq_self_eq_true,PV];refine a_ (d_ ?_);simp only[Rc,z_,OS];refine a_ (PH ho hd ?_);dsimp only;refine a_ ?_;rw[<- RC];refine Qo _ (λrest r s'=>r.1=none/\s'=s/\∀v∈rest,carriedByValue v=true) _ ?_ ?_ _ _ ⟨rfl,rfl,hi.byValue⟩
  .rintro v rest r s' ⟨hr,rfl,kT⟩;rw[B2 _ (kT v j_)];refine a_ (d_ ?_);simp only[z_,OS];exact d_ ⟨rfl,rfl,λu HH=>kT u (i_ _ HH)⟩
  .rintro⟨r1,r2⟩ s' ⟨hr,rfl,_⟩;simp only at hr;subst hr;exact d_ h
 hbv:=λ{A E s k a Q} hk h=>by
  have hT:s.TypeIs (.ref a) "tuple":=IsTupleKey.typeIs hk;obtain⟨o,items,n,ho,_,hd,hi⟩:=hk;unfold hashByValue;refine a_ (Qb hT F.slot_tuple_hash.lookup ?_);dsimp only;refine a_ (PH ho hd ?_);refine a_ ?_;show wpAny _ _ (forIn items _ _) _ _ s;rw[<- RC];refine Qo _ (λrest r s'=>r.1=none/\s'=s/\∃ks,ItemsAre (aF prog w) ks rest) _ ?_ ?_ _ _ ⟨rfl,rfl,_,hi⟩
  .rintro v rest r s' ⟨hr,rfl,ks,J7⟩;cases J7 with
   | cons h1 HF=>
    obtain⟨b,hb⟩:=Cg 7 h1;rw[hb];refine a_ (d_ ?_);cases b with
    | true=>
     simp only[Rc,z_,OS];exact d_ ⟨rfl,rfl,_,HF⟩
    | false=>
     simp only[Bool.not_false,PV];exact d_ (d_ (h _))
  .rintro⟨r1,r2⟩ s' ⟨hr,rfl,_⟩;simp only at hr;subst hr;exact d_ (h _)
def rP[DecidableEq K](xs:List (K×SM))(x:K×SM):List (K×SM):=if x.1∈xs.map (·.1)then xs else xs++[x]
section
variable {prog:SF}{w:SI}{A:SG}{E:Sj}{s:SE}{R:Result->SE->Prop}
theorem xS(hu:A.units<cLine)(hS:iB (tupleKind (aF prog w)) a xs s.heap)(Bm:∀x∈xs,(tupleKind (aF prog w)).is s.heap x.1 x.2)(gh:(tupleKind (aF prog w)).is s.heap k b)(hl:xs.length+1<=4914)
  (h:∀r h' tk,Heap.SameBut a s.heap h'->iB (tupleKind (aF prog w)) a (rP xs (k,b)) h'->(∀L,Hw prog w b s.heap->Fl a L s.heap->Fl a L h')->Q r {s with heap:=h',toks:=tk}):wpAny (model prog w) A (setAdd a (.ref b)) Q E s:=by
 unfold setAdd;refine K_ ?_;refine a_ ((tupleKind (aF prog w)).pyHash (show(tupleKind (aF prog w)).room A from hu) gh ?_);refine CL (s:={s with toks:=s.toks+(tupleKind (aF prog w)).draws k}) Aj (show(tupleKind (aF prog w)).room A from hu) hS Bm gh hl (λhk=>?_) (λhk h' hsb hS' hF=>?_)
 .have e:rP xs (k,b)=xs:=by unfold rP;rw[k_ hk]
  exact h false s.heap _ ⟨rfl,λ_ _=>rfl⟩ (by rw[e];exact hS) λ_ _ z=>z
 .have e:rP xs (k,b)=xs++[(k,b)]:=by unfold rP;rw[l_ hk]
  exact h true h' _ hsb (by rw[e];exact hS') hF
theorem zi{ps:Sz}(hk:(tupleKind (aF prog w)).is h (ps.map Sum.inl) b):Hw prog w b h:=by
 intro A E s Q e hQ;subst e;have hT:s.TypeIs (.ref b) "tuple":=IsTupleKey.typeIs hk;obtain⟨o,items,n,ho,_,hd,hi⟩:=hk;unfold hashByValue;refine a_ (Qb hT F.slot_tuple_hash.lookup ?_);dsimp only;refine a_ (PH ho hd ?_);refine a_ ?_;show wpAny _ _ (forIn items _ _) _ _ s;rw[<- RC];refine Qo _ (λrest r s'=>r.1=none/\s'=s/\∃ks:Sz,ItemsAre (aF prog w) (ks.map Sum.inl) rest) _ ?_ ?_ _ _ ⟨rfl,rfl,_,hi⟩
 .rintro v rest r s' ⟨hr,rfl,ks,J7⟩;cases ks with
  | nil=>cases J7
  | cons i ks=>
   cases J7 with
   | cons h1 HF=>
    rcases a7 (show iN (.inl i) v=true from h1)with ⟨j,t,_,rfl⟩ | ⟨x,t,e,_⟩
    .show wpAny _ _ (pure true >>= _) _ _ _;refine a_ (d_ ?_);simp only[Rc,z_,OS];exact d_ ⟨rfl,rfl,_,HF⟩
    .cases e
 .rintro⟨r1,r2⟩ s' ⟨hr,rfl,_⟩;simp only at hr;subst hr;exact d_ hQ
theorem yI(led:Bool)(e:h.get? a=some {cls:=.type "set",dict:=none,data:=.set #[] 0 (.fresh 0 0 led)}):iB (tupleKind (aF prog w)) a [] h:=by
 refine⟨_,#[],0,_,e,⟨rfl,rfl,rfl⟩,rfl,⟨by simp,⟨rfl,⟨3,rfl⟩,by simp[SetTable.fresh],λx hx=>?_,rfl,by simp[SetTable.fresh],λq hq=>?_⟩,by simp[SetTable.fresh,ed],by simp[SetTable.fresh]⟩,RD⟩
 .simp[SetTable.fresh]at hx
 .simp[SetTable.fresh]at hq
end
section
variable {prog:SF}{w:SI}{A:SG}{E:Sj}{s:SE}{R:Result->SE->Prop}
section
variable {K:Type}[DecidableEq K]{knd:HeapKind prog w K}
end
end
end St
namespace Mi
open PySem PySem.Spec PyProof.Rows L2
inductive D where
 | non | bl (b:Bool) | int (i:Int) | str (x:Str) | tup (ds:List D) | lst (ds:List D) | dct (ks:List (Int×Int))
  | st (ps:List (Int×Int)) | ln (n:Nat)
  | mp (th:Str->Int) (ks:List (List Key)) (ds:List D)
  | ix (th:Str->Int) (ks:List Key) (ds:List D)
 deriving Inhabited
abbrev SW:=Option D
abbrev SV:=List D
abbrev SU:=Option SV
def kk(p:SA):SR:=[.inl p.1,.inl p.2]
abbrev Fg:=SB
def F7(x:SA×SM):Int×SC:=(reduceHash (Builtin.Tuple.tupleHashOf [hashInt x.1.1,hashInt x.1.2]),.ref x.2)
def tF(a:SM)(ps:So)(bs:Sv)(h:SH):Prop:=
 ∃o es ep t,h.get? a=some o/\o.ExactSet/\o.data=.set es ep t/\es.toList.Perm ((ps.zip bs).map F7)/\St.Ok t (es.toList.map (·.1))/\t.mask∈St.ed/\t.place.size*5<t.mask*3/\ps.Nodup
def Le(x:SA×SM):DictEntry:=⟨reduceHash (Builtin.Tuple.tupleHashOf [hashInt x.1.1,hashInt x.1.2]),.ref x.2,.bool true⟩
def GG(a:SM)(ps:So)(bs:Sv)(h:SH):Prop:=
 ∃o es ep,h.get? a=some o/\o.ExactDict/\o.data=.dict es ep/\es.toList=(ps.zip bs).map Le/\ps.Nodup/\(a==sysModules)=false/\ps.length<=16000000
def zV(K:Fg)(H:Hp)(ps:So)(bs:Sv):Prop:=bs.length=ps.length/\∀(i:Nat) p b,ps[i]?=some p->bs[i]?=some b->cH K H b [.int p.1,.int p.2]
def wG(K:Fg)(Z H:Hp)(a:SM)(ks:So):Prop:=∃bs,H a=some (.ext (GG a ks bs))/\zV K Z ks bs
def JI(a:SM)(n:Nat)(h:SH):Prop:=∃o es ep,h.get? a=some o/\o.ExactDict/\o.data=.dict es ep/\es.size=n/\(a==sysModules)=false
def hK(th:Str->Int):Key->Int
 | .inl k=>hashInt k
 | .inr x=>th x
def Gq(th:Str->Int)(x:SR×SM×SC):DictEntry:=⟨reduceHash (Builtin.Tuple.tupleHashOf (x.1.map (hK th))),.ref x.2.1,x.2.2⟩
def ik(ks:SQ)(bs:Sv)(us:Sr):List (SR×SM×SC):=ks.zip (bs.zip us)
def fZ(th:Str->Int)(a:SM)(ks:SQ)(bs:Sv)(vs:SX)(h:SH):Prop:=
 ∃o es ep us,h.get? a=some o/\o.ExactDict/\o.data=.dict es ep/\av vs us/\es.toList=(ik ks bs us).map (Gq th)/\ks.Nodup/\(a==sysModules)=false/\ks.length<=16000000/\bs.length=ks.length/\us.length=ks.length
def jF(K:Fg)(H:Hp)(ks:SQ)(bs:Sv):Prop:=∀(i:Nat) k b,ks[i]?=some k->bs[i]?=some b->cH K H b (k.map kV)
def AN(th:Str->Int)(o:Obj)(a:SM)(ks:SR)(vs:SX):Prop:=
 (a==sysModules)=false/\ks.length<=16000000/\vs.length=ks.length/\∃(P:SF)(w:SI)(us:Sr),th=hashStr w/\av vs us/\o.IsDictOf (aF P w) (ks.zip us)
def nu(a:SM)(o:Obj)(h:SH):Prop:=h.get? a=some o
mutual
def Rep(K:Fg)(H:Hp):D->V->Prop
 | .non,v=>v=.non
 | .bl b,v=>v=.bl b
 | .int i,v=>v=.int i
 | .str x,v=>v=.str x/\PyData.strOk x=true
 | .tup ds,v=>∃a vs,v=.ref a/\cH K H a vs/\ar K H ds vs
 | .lst ds,v=>∃a vs,v=.ref a/\cT K H a vs/\ar K H ds vs
 | .dct ks,v=>∃a,v=.ref a/\wG K H H a ks
 | .st ps,v=>∃a bs,v=.ref a/\bs.length=ps.length/\H a=some (.ext (tF a ps bs))/\∀(i:Nat) p b,ps[i]?=some p->bs[i]?=some b->cH K H b [.int p.1,.int p.2]
 | .ln n,v=>∃a,v=.ref a/\H a=some (.ext (JI a n))
 | .mp th ks ds,v=>∃a bs vs,v=.ref a/\H a=some (.ext (fZ th a ks bs vs))/\jF K H ks bs/\ar K H ds vs
 | .ix th ks ds,v=>∃a o vs,v=.ref a/\H a=some (.ext (nu a o))/\AN th o a ks vs/\ar K H ds vs
def ar(K:Fg)(H:Hp):SV->SX->Prop
 | [],vs=>vs=[]
 | d::ds,vs=>∃v r,vs=v::r/\Rep K H d v/\ar K H ds r
end
theorem cK{K:Fg}{H H':Hp}{a:SM}{xs:SX}(e:aK H H')(h:cH K H a xs):cH K H' a xs:=by
 rcases h with (h | ⟨o,h⟩) | h
 .exact .inl (.inl (e _ _ h))
 .exact .inl (.inr ⟨o,e _ _ h⟩)
 .exact .inr h
theorem jF.mono{K:Fg}{H H':Hp}(s:aK H H'){ks:SQ}{bs:Sv}(h:jF K H ks bs):jF K H' ks bs:=λi k b h1 h2=>cK s (h i k b h1 h2)
theorem zV.mono{K:Fg}{H H':Hp}(s:aK H H'){ps:So}{bs:Sv}(h:zV K H ps bs):zV K H' ps bs:=⟨h.1,λi p b h1 h2=>cK s (h.2 i p b h1 h2)⟩
theorem wG.mono{K:Fg}{Z Z' H H':Hp}(z:aK Z Z')(s:aK H H'){a:SM}{ks:So}(h:wG K Z H a ks):wG K Z' H' a ks:=let ⟨bs,e,r⟩:=h;⟨bs,s _ _ e,r.mono z⟩
mutual
theorem Rep.mono{K:Fg}{H H':Hp}(s:aK H H'):∀(d:D){v:V},Rep K H d v->Rep K H' d v
 | .non,_,h=>h
 | .bl _,_,h=>h
 | .int _,_,h=>h
 | .str _,_,h=>h
 | .tup ds,_,⟨a,vs,e,q,r⟩=>⟨a,vs,e,cK s q,ar.mono s ds r⟩
 | .lst ds,_,⟨a,vs,e,q,r⟩=>⟨a,vs,e,s.seq q,ar.mono s ds r⟩
 | .dct ks,_,⟨a,e,q⟩=>⟨a,e,q.mono s s⟩
 | .st ps,_,⟨a,bs,e,l,q,r⟩=>⟨a,bs,e,l,s _ _ q,λi p b h1 h2=>cK s (r i p b h1 h2)⟩
 | .ln n,_,⟨a,e,q⟩=>⟨a,e,s _ _ q⟩
 | .mp th ks ds,_,⟨a,bs,vs,e,q,r,t⟩=>⟨a,bs,vs,e,s _ _ q,r.mono s,ar.mono s ds t⟩
 | .ix th ks ds,_,⟨a,o,vs,e,q,r,t⟩=>⟨a,o,vs,e,s _ _ q,r,ar.mono s ds t⟩
theorem ar.mono{K:Fg}{H H':Hp}(s:aK H H'):∀(ds:SV){vs:SX},ar K H ds vs->ar K H' ds vs
 | [],_,h=>h
 | d::ds,_,⟨v,r,e,h,q⟩=>⟨v,r,e,Rep.mono s d h,ar.mono s ds q⟩
end
theorem ar.len{K:Fg}{H:Hp}:∀{ds:SV}{vs:SX},ar K H ds vs->ds.length=vs.length
 | [],_,h=>by cases(show _=[]from h);rfl
 | d::ds,_,⟨v,r,e,_,q⟩=>by subst e;simp[ar.len q]
theorem ar.get{K:Fg}{H:Hp}:∀{ds:SV}{vs:SX}{i:Nat}{d:D},ar K H ds vs->ds[i]?=some d->∃v,vs[i]?=some v/\Rep K H d v
 | [],_,_,_,_,e=>by simp at e
 | d::ds,_,0,_,⟨v,r,e,h,q⟩,e2=>by subst e;simp at e2;subst e2;exact⟨v,rfl,h⟩
 | d::ds,_,i+1,_,⟨v,r,e,h,q⟩,e2=>by subst e;simpa using ar.get (i:=i) q (by simpa using e2)
theorem ar.getV{K:Fg}{H:Hp}{ds:SV}{vs:SX}{i:Nat}{v:V}(h:ar K H ds vs)(e:vs[i]?=some v):∃d,ds[i]?=some d/\Rep K H d v:=by
 have hl:=h.len;have hi:i<vs.length:=(o_.mp e).1;have hd:ds[i]?=some (ds[i]'(by lia)):=by simp[hl,hi]
 obtain⟨w,e2,r⟩:=h.get hd;rw[e]at e2;cases e2;exact⟨_,hd,r⟩
theorem ar.app{K:Fg}{H:Hp}:∀{ds es:SV}{vs us:SX},ar K H ds vs->ar K H es us->ar K H (ds++es) (vs++us)
 | [],_,_,_,h,q=>by cases(show _=[]from h);exact q
 | d::ds,_,_,_,⟨v,r,e,h,q⟩,q2=>by subst e;exact⟨v,_,rfl,h,ar.app q q2⟩
theorem ar.one{K:Fg}{H:Hp}{d:D}{v:V}(h:Rep K H d v):ar K H [d] [v]:=⟨v,[],rfl,h,rfl⟩
theorem ar.cons{K:Fg}{H:Hp}{d:D}{v:V}{ds:SV}{vs:SX}(h:Rep K H d v)(r:ar K H ds vs):ar K H (d::ds) (v::vs):=⟨v,vs,rfl,h,r⟩
theorem ar.set{K:Fg}{H:Hp}{d:D}{v:V}(h:Rep K H d v):∀{ds:SV}{vs:SX}(i:Nat),ar K H ds vs->ar K H (ds.set i d) (vs.set i v)
 | [],_,_,q=>by cases(show _=[]from q);rfl
 | d::ds,_,0,⟨w,r,e,_,q⟩=>by subst e;exact⟨v,r,rfl,h,q⟩
 | d::ds,_,i+1,⟨w,r,e,z,q⟩=>by subst e;exact⟨w,_,rfl,z,ar.set h i q⟩
theorem ar.drop{K:Fg}{H:Hp}:∀{ds:SV}{vs:SX}(n:Nat),ar K H ds vs->ar K H (ds.drop n) (vs.drop n)
 | _,_,0,q=>q
 | [],_,_+1,q=>by cases(show _=[]from q);rfl
 | _::_,_,n+1,⟨w,r,e,z,q⟩=>by subst e;exact ar.drop n q
theorem ar.take{K:Fg}{H:Hp}:∀{ds:SV}{vs:SX}(n:Nat),ar K H ds vs->ar K H (ds.take n) (vs.take n)
 | _,_,0,q=>rfl
 | [],_,_+1,q=>by cases(show _=[]from q);rfl
 | _::_,_,n+1,⟨w,r,e,z,q⟩=>by subst e;exact⟨w,_,rfl,z,ar.take n q⟩
theorem ar.rev{K:Fg}{H:Hp}:∀{ds:SV}{vs:SX},ar K H ds vs->ar K H ds.reverse vs.reverse
 | [],_,q=>by cases(show _=[]from q);rfl
 | _::_,_,⟨w,r,e,z,q⟩=>by subst e;simp only[RN];exact(ar.rev q).app (ar.one z)
theorem ar.ints{K:Fg}{H:Hp}:∀(ns:Sz),ar K H (ns.map D.int) (ns.map V.int)
 | []=>rfl
 | n::ns=>⟨_,_,rfl,rfl,ar.ints ns⟩
abbrev Nf(Z Z':Hp):Prop:=∀a ob u,Z' a=some (.frz ob u)->Z a=some (.frz ob u)
abbrev NF(o:HO):Prop:=∀ob u,o≠.frz ob u
theorem KJ:NF (.lst xs):=λ_ _ z=>by cases z
theorem Om:NF (.tup xs):=λ_ _ z=>by cases z
theorem Im:NF (.ext φ):=λ_ _ z=>by cases z
theorem rQ(n:Nf Z Z')(hf:NF o):Nf Z (upd Z' p o):=λa ob u e=>by
 by_cases hb:a=p
 .subst hb;rw[ax]at e;cases e;exact absurd rfl (hf ob u)
 .rw[aH hb]at e;exact n a ob u e
structure Ex(Z H Z' H':Hp):Prop where
 h:aK H H'
 z:aK Z Z'
 zh:aK Z' H'
 fr:∀a,H a≠none->Z a=none->Z' a=none
 nf:Nf Z Z'
theorem Ex.refl(s:aK Z H):Ex Z H Z H:=⟨aK.refl _,aK.refl _,s,λ_ _ h=>h,λ_ _ _ h=>h⟩
theorem lV(s:aK H H')(h:H a≠none):H' a≠none:=by
 cases e:H a with
 | none=>exact absurd e h
 | some o=>rw[s a o e];simp
theorem Ex.trans(x:Ex Z H Z1 H1)(y:Ex Z1 H1 Z2 H2):Ex Z H Z2 H2:=
 ⟨x.h.trans y.h,x.z.trans y.z,y.zh,λa h e=>y.fr a (lV x.h h) (x.fr a h e),λa o u h=>x.nf a o u (y.nf a o u h)⟩
theorem Ex.transB(x:Ex Z B Z1 H1)(y:Ex Z1 B Z2 H2):Ex Z B Z2 H2:=
 ⟨y.h,x.z.trans y.z,y.zh,λa h e=>y.fr a h (x.fr a h e),λa o u h=>x.nf a o u (y.nf a o u h)⟩
theorem Ex.part(b:aK B H)(x:Ex Z H Z' H'):Ex Z B Z' H':=⟨b.trans x.h,x.z,x.zh,λa h e=>x.fr a (lV b h) e,x.nf⟩
theorem dW(h:H p=none):aK H (upd H p o):=λb u e=>by rw[aH (a6 e h)];exact e
theorem F1(s:aK Z H)(h:H p=none):aK (upd Z p o) (upd H p o):=λb u e=>by
 by_cases hb:b=p
 .subst hb;rw[ax]at e ⊢;exact e
 .rw[aH hb]at e ⊢;exact s b u e
theorem dZ(s:aK Z H)(h:Z p=none):aK Z (upd H p o):=λb u e=>by
 rw[aH (a6 e h)];exact s b u e
theorem l9(s:aK Z H)(h:H p=some o):aK (upd Z p o) H:=λb u e=>by
 by_cases hb:b=p
 .subst hb;rw[ax]at e;cases e;exact h
 .rw[aH hb]at e;exact s b u e
theorem Ex.new(s:aK Z H)(h:H p=none)(hf:NF o:=by first | exact Om | exact KJ | exact Im):Ex Z H (upd Z p o) (upd H p o):=
 ⟨dW h,dW (s.free h),F1 s h,λa ha e=>by rw[aH (λz=>ha (by rw[z];exact h))];exact e,rQ (λ_ _ _ h=>h) hf⟩
theorem Ex.newL(s:aK Z H)(h:H p=none):Ex Z H Z (upd H p o):=
 ⟨dW h,aK.refl _,dZ s (s.free h),λ_ _ e=>e,λ_ _ _ h=>h⟩
def xN(K:Fg)(Z H:Hp)(a:SM)(th:Str->Int)(ks:SQ)(ds:SV):Prop:=∃bs vs,H a=some (.ext (fZ th a ks bs vs))/\jF K Z ks bs/\ar K Z ds vs
theorem xN.mono{K:Fg}{Z Z' H H':Hp}(z:aK Z Z')(s:aK H H'){a:SM}{th:Str->Int}{ks:SQ}{ds:SV}(h:xN K Z H a th ks ds):xN K Z' H' a th ks ds:=let ⟨bs,vs,e,r,t⟩:=h;⟨bs,vs,s _ _ e,r.mono z,ar.mono z ds t⟩
inductive Gr where | pk | cl | nw | nd | nm
def Gd(K:Fg)(Z' H H':Hp):Gr->D->V->Prop
 | .pk,d,v=>Rep K Z' d v\/(∃a vs ds,v=.ref a/\d=.lst ds/\H' a=some (.lst vs)/\ar K Z' ds vs)\/(∃a ks,v=.ref a/\d=.dct ks/\wG K Z' H' a ks)\/∃a th ks ds,v=.ref a/\d=.mp th ks ds/\xN K Z' H' a th ks ds
 | .cl,d,v=>Rep K Z' d v
 | .nw,d,v=>∃a vs ds,v=.ref a/\d=.lst ds/\H a=none/\H' a=some (.lst vs)/\Z' a=none/\ar K Z' ds vs
 | .nd,d,v=>∃a ks,v=.ref a/\d=.dct ks/\H a=none/\wG K Z' H' a ks/\Z' a=none
 | .nm,d,v=>∃a th ks ds,v=.ref a/\d=.mp th ks ds/\H a=none/\xN K Z' H' a th ks ds/\Z' a=none
section
variable {K:Fg}{Z Z' H H':Hp}{g:Gr}{d:D}{v:V}
theorem Gd.pk(h:Gd K Z' H H' g d v):Gd K Z' H3 H' .pk d v:=by
 cases g with
 | pk=>exact h
 | cl=>exact .inl h
 | nw=>obtain⟨a,vs,ds,e1,e2,_,e3,_,r⟩:=h;exact .inr (.inl ⟨a,vs,ds,e1,e2,e3,r⟩)
 | nd=>obtain⟨a,ks,e1,e2,_,e3,_⟩:=h;exact .inr (.inr (.inl ⟨a,ks,e1,e2,e3⟩))
 | nm=>obtain⟨a,th,ks,ds,e1,e2,_,e3,_⟩:=h;exact .inr (.inr (.inr ⟨a,th,ks,ds,e1,e2,e3⟩))
theorem Gd.rep(s:aK Z' H')(h:Gd K Z' H H' g d v):Rep K H' d v:=by
 rcases(h.pk (H3:=H))with h | ⟨a,vs,ds,rfl,rfl,e,r⟩ | ⟨a,ks,rfl,rfl,e⟩ | ⟨a,th,ks,ds,rfl,rfl,bs,vs,e,r,t⟩
 .exact Rep.mono s d h
 .exact⟨a,vs,rfl,cT.of e,ar.mono s ds r⟩
 .exact⟨a,rfl,e.mono s (aK.refl _)⟩
 .exact⟨a,bs,vs,rfl,e,r.mono s,ar.mono s ds t⟩
theorem Gd.lst{ds:SV}(s:aK Z' H')(h:Gd K Z' H H' g (.lst ds) v):∃a vs,v=.ref a/\cT K H' a vs/\ar K Z' ds vs:=by
 rcases(h.pk (H3:=H))with ⟨a,vs,e,q,r⟩ | ⟨a,vs,J8,rfl,e,e2,r⟩ | ⟨_,_,_,e,_⟩ | ⟨_,_,_,_,_,e,_⟩
 .exact⟨a,vs,e,s.seq q,r⟩
 .cases e;exact⟨a,vs,rfl,cT.of e2,r⟩
 .cases e
 .cases e
theorem Gd.mp(s:aK Z' H')(h:Gd K Z' H H' g (.mp th ks ds) v):∃a,v=.ref a/\xN K Z' H' a th ks ds:=by
 rcases(h.pk (H3:=H))with ⟨a,bs,vs,e,q,r,t⟩ | ⟨_,_,_,_,e,_⟩ | ⟨_,_,_,e,_⟩ | ⟨a,yb,ig,J8,rfl,e,q⟩
 .exact⟨a,e,bs,vs,s _ _ q,r,t⟩
 .cases e
 .cases e
 .cases e;exact⟨a,rfl,q⟩
theorem Gd.tup{ds:SV}(s:aK Z' H')(h:Gd K Z' H H' g (.tup ds) v):∃a vs,v=.ref a/\cH K H' a vs/\ar K Z' ds vs:=by
 rcases(h.pk (H3:=H))with ⟨a,vs,e,q,r⟩ | ⟨a,vs,J8,rfl,e,e2,r⟩ | ⟨_,_,_,e,_⟩ | ⟨_,_,_,_,_,e,_⟩
 .exact⟨a,vs,e,cK s q,r⟩
 .cases e
 .cases e
 .cases e
theorem Gd.int{i:Int}(h:Gd K Z' H H' g (.int i) v):v=.int i:=by
 rcases(h.pk (H3:=H))with h | ⟨_,_,_,_,e,_⟩ | ⟨_,_,_,e,_⟩ | ⟨_,_,_,_,_,e,_⟩
 .exact h
 .cases e
 .cases e
 .cases e
theorem Gd.bl(h:Gd K Z' H H' g (.bl b) v):v=.bl b:=by
 rcases(h.pk (H3:=H))with h | ⟨_,_,_,_,e,_⟩ | ⟨_,_,_,e,_⟩ | ⟨_,_,_,_,_,e,_⟩
 .exact h
 .cases e
 .cases e
 .cases e
theorem Gd.str{x:Str}(h:Gd K Z' H H' g (.str x) v):v=.str x:=by
 rcases(h.pk (H3:=H))with h | ⟨_,_,_,_,e,_⟩ | ⟨_,_,_,e,_⟩ | ⟨_,_,_,_,_,e,_⟩
 .exact h.1
 .cases e
 .cases e
 .cases e
theorem Gd.later(x:Ex Z' H' Z2 H2)(h:Gd K Z' H H' g d v):Gd K Z2 H3 H2 .pk d v:=by
 rcases(h.pk (H3:=H))with h | ⟨a,vs,ds,e1,e2,e3,r⟩ | ⟨a,ks,e1,e2,e3⟩ | ⟨a,th,ks,ds,e1,e2,e3⟩
 .exact .inl (Rep.mono x.z d h)
 .exact .inr (.inl ⟨a,vs,ds,e1,e2,x.h _ _ e3,ar.mono x.z ds r⟩)
 .exact .inr (.inr (.inl ⟨a,ks,e1,e2,e3.mono x.z x.h⟩))
 .exact .inr (.inr (.inr ⟨a,th,ks,ds,e1,e2,e3.mono x.z x.h⟩))
end
inductive qE where
 | L (ds:List D) | T (ks:List (Int×Int)) | M (th:Str->Int) (ks:List (List Key)) (ds:List D) | I (th:Str->Int) (ks:List Key) (ds:List D)
def cw(K:Fg)(Z:Hp)(a:SM):qE->HO->Prop
 | .L ds,o=>∃vs,o=.lst vs/\ar K Z ds vs
 | .T ks,o=>∃bs,o=.ext (GG a ks bs)/\zV K Z ks bs
 | .M th ks ds,o=>∃bs vs,o=.ext (fZ th a ks bs vs)/\jF K Z ks bs/\ar K Z ds vs
 | .I th ks ds,o=>∃ob vs,o=.ext (nu a ob)/\AN th ob a ks vs/\ar K Z ds vs
def qE.d:qE->D
 | .L ds=>.lst ds
 | .T ks=>.dct ks
 | .M th ks ds=>.mp th ks ds
 | .I th ks ds=>.ix th ks ds
def qE.pd:qE->SW
 | .L ds=>some (.lst ds)
 | .T ks=>some (.dct ks)
 | .M th ks ds=>some (.mp th ks ds)
 | .I _ _ _=>none
theorem cw.l{K:Fg}{Z:Hp}{a:SM}{ds:SV}{vs:SX}(h:ar K Z ds vs):cw K Z a (.L ds) (.lst vs):=⟨vs,rfl,h⟩
theorem cw.mono{K:Fg}{Z Z':Hp}(s:aK Z Z'){a:SM}{w:qE}{o:HO}(h:cw K Z a w o):cw K Z' a w o:=by
 cases w with
 | L ds=>obtain⟨vs,e,r⟩:=h;exact⟨vs,e,ar.mono s ds r⟩
 | T ks=>obtain⟨bs,e,r⟩:=h;exact⟨bs,e,r.mono s⟩
 | M th ks ds=>obtain⟨bs,vs,e,r,t⟩:=h;exact⟨bs,vs,e,r.mono s,ar.mono s ds t⟩
 | I th ks ds=>obtain⟨ob,vs,e,r,t⟩:=h;exact⟨ob,vs,e,r,ar.mono s ds t⟩
theorem cw.rep{K:Fg}{Z:Hp}{w:qE}{o:HO}{a:SM}(h:cw K Z a w o)(e:Z a=some o):Rep K Z w.d (.ref a):=by
 cases w with
 | L ds=>obtain⟨vs,rfl,r⟩:=h;exact⟨a,vs,rfl,cT.of e,r⟩
 | T ks=>obtain⟨bs,rfl,r⟩:=h;exact⟨a,rfl,bs,e,r⟩
 | M th ks ds=>obtain⟨bs,vs,rfl,r,t⟩:=h;exact⟨a,bs,vs,rfl,e,r,t⟩
 | I th ks ds=>obtain⟨ob,vs,rfl,r,t⟩:=h;exact⟨a,ob,vs,rfl,e,r,t⟩
theorem cw.nf{K:Fg}{Z:Hp}{w:qE}{o:HO}{a:SM}(h:cw K Z a w o):NF o:=by
 cases w with
 | L ds=>obtain⟨vs,rfl,r⟩:=h;exact KJ
 | T ks=>obtain⟨bs,rfl,r⟩:=h;exact Im
 | M th ks ds=>obtain⟨bs,vs,rfl,r,t⟩:=h;exact Im
 | I th ks ds=>obtain⟨ob,vs,rfl,r,t⟩:=h;exact Im
inductive Slot where
 | un | F (d:D) | O (w:qE)
def pj(K:Fg)(Z H:Hp):Slot->Option V->Prop
 | .un,_=>True
 | .F d,x=>∃v,x=some v/\Rep K Z d v
 | .O w,x=>∃a o,x=some (.ref a)/\H a=some o/\Z a=none/\cw K Z a w o
abbrev En:=List Slot
abbrev SS:=En->SU
structure Rl(K:Fg)(B Z H:Hp)(env:En)(σ:L2.St):Prop where
 bh:aK B H
 zh:aK Z H
 len:env.length=σ.length
 sl:∀(i:Nat) s,env[i]?=some s->∃x,σ[i]?=some x/\pj K Z H s x
 ob:∀(i:Nat) ds a,env[i]?=some (.O ds)->σ[i]?=some (some (.ref a))->B a=none
 ap:∀(i j:Nat) ds es a,i≠j->env[i]?=some (.O ds)->env[j]?=some (.O es)->σ[i]?=some (some (.ref a))->σ[j]?≠some (some (.ref a))
section
variable {K:Fg}{B Z H Z' H':Hp}{env:En}{σ:L2.St}
theorem pj.ext(e:Ex Z H Z' H')(h:pj K Z H s x):pj K Z' H' s x:=by
 cases s with
 | un=>trivial
 | F d=>obtain⟨v,e1,r⟩:=h;exact⟨v,e1,Rep.mono e.z d r⟩
 | O w=>obtain⟨a,o,e1,e2,e3,r⟩:=h;exact⟨a,o,e1,e.h _ _ e2,e.fr a (by rw[e2];simp) e3,r.mono e.z⟩
theorem Rl.ext(R:Rl K B Z H env σ)(e:Ex Z H Z' H'):Rl K B Z' H' env σ:=
 ⟨R.bh.trans e.h,e.zh,R.len,λi s h=>let ⟨x,h1,h2⟩:=R.sl i s h;⟨x,h1,h2.ext e⟩,R.ob,R.ap⟩
theorem Rl.setF(R:Rl K B Z H env σ)(i:Nat)(r:Rep K Z d v):Rl K B Z H (env.set i (.F d)) (σ.set i (some v)):=by
 refine⟨R.bh,R.zh,by simp[R.len],λj s h=>?_,λj ds a h h2=>?_,λj k ds es a hne h1 h2 h3 h4=>?_⟩
 .by_cases hj:i=j
  .subst hj
   by_cases hl:i<env.length
   .rw[D_ hl]at h;cases h;exact⟨some v,D_ (by rw[<- R.len];exact hl),v,rfl,r⟩
   .rw[Ou (by simpa using P4 hl)]at h;cases h
  .rw[q_ hj]at h ⊢;exact R.sl j s h
 .by_cases hj:i=j
  .subst hj
   by_cases hl:i<env.length
   .rw[D_ hl]at h;cases h
   .rw[Ou (by simpa using P4 hl)]at h;cases h
  .rw[q_ hj]at h h2;exact R.ob j ds a h h2
 .have DF:∀{j:Nat}{ds:qE},(env.set i (.F d))[j]?=some (.O ds)->i≠j:=λ{j ds} h z=>by
   subst z
   by_cases hl:i<env.length
   .rw[D_ hl]at h;cases h
   .rw[Ou (by simpa using P4 hl)]at h;cases h
  have n1:=DF h1;have n2:=DF h2;rw[q_ n1]at h1 h3;rw[q_ n2]at h2 h4;exact R.ap j k ds es a hne h1 h2 h3 h4
theorem Rl.setO(R:Rl K B Z H env σ)(i:Nat)(hb:B a=none)(hz:Z a=none)(hh:H a=some vs)(r:cw K Z a ds vs)
  (hn:∀(j:Nat) es,j≠i->env[j]?=some (.O es)->σ[j]?≠some (some (.ref a))):Rl K B Z H (env.set i (.O ds)) (σ.set i (some (.ref a))):=by
 have atI:∀{s:Slot},(env.set i (.O ds))[i]?=some s->s=.O ds/\(σ.set i (some (V.ref a)))[i]?=some (some (.ref a)):=λ{s} h=>by
  by_cases hl:i<env.length
  .rw[D_ hl]at h;cases h;exact⟨rfl,D_ (by rw[<- R.len];exact hl)⟩
  .rw[Ou (by simpa using P4 hl)]at h;cases h
 refine⟨R.bh,R.zh,by simp[R.len],λj s h=>?_,λj es b h h2=>?_,λj k es fs b hne h1 h2 h3 h4=>?_⟩
 .by_cases hj:i=j
  .subst hj;obtain⟨e1,e2⟩:=atI h;subst e1;exact⟨_,e2,a,vs,rfl,hh,hz,r⟩
  .rw[q_ hj]at h ⊢;exact R.sl j s h
 .by_cases hj:i=j
  .subst hj;obtain⟨_,e2⟩:=atI h;rw[e2]at h2;cases h2;exact hb
  .rw[q_ hj]at h h2;exact R.ob j es b h h2
 .by_cases hj:i=j
  .subst hj;obtain⟨_,e2⟩:=atI h1;rw[e2]at h3;cases h3;rw[q_ hne]at h2 h4;exact hn k fs (Pw hne) h2 h4
  .by_cases hk:i=k
   .subst hk;obtain⟨_,e2⟩:=atI h2;rw[e2]at h4;cases h4;rw[q_ hj]at h1 h3;exact hn j es (Pw hj) h1 h3
   .rw[q_ hj]at h1 h3;rw[q_ hk]at h2 h4;exact R.ap j k es fs b hne h1 h2 h3 h4
theorem Rl.wr(R:Rl K B Z H env σ)(hi:env[i]?=some (.O ds))(ha:σ[i]?=some (some (.ref a)))(r:cw K Z a es vs) :
  Rl K B Z (upd H a vs) (env.set i (.O es)) σ/\Ex Z B Z (upd H a vs):=by
 have hb:=R.ob i ds a hi ha;obtain⟨x,e1,b,us,e2,e3,hz,_⟩:=R.sl i _ hi;rw[ha]at e1;cases e1;cases e2;have hl:i<env.length:=(o_.mp hi).1;have sb:aK B (upd H a vs):=dZ R.bh hb;have sz:aK Z (upd H a vs):=dZ R.zh hz;refine⟨⟨sb,sz,by simp[R.len],λj s h=>?_,λj fs b h h2=>?_,λj k fs gs b hne h1 h2 h3 h4=>?_⟩,⟨sb,aK.refl _,sz,λ_ _ e=>e,λ_ _ _ h=>h⟩⟩
 .by_cases hj:i=j
  .subst hj;rw[D_ hl]at h;cases h;exact⟨_,ha,a,vs,rfl,ax,hz,r⟩
  .rw[q_ hj]at h;obtain⟨x,e1,q⟩:=R.sl j s h;refine⟨x,e1,?_⟩;cases s with
   | un=>trivial
   | F d=>exact q
   | O fs=>
    obtain⟨b,J9,e4,e5,e6,q⟩:=q;refine⟨b,J9,e4,?_,e6,q⟩;rw[aH (λz=>?_)]
    .exact e5
    .subst z;subst e4;exact R.ap i j ds fs b hj hi h ha e1
 .by_cases hj:i=j
  .subst hj;rw[ha]at h2;cases h2;exact hb
  .rw[q_ hj]at h;exact R.ob j fs b h h2
 .have old:∀{j:Nat}{fs:qE},(env.set i (.O es))[j]?=some (.O fs)->∃JT,env[j]?=some (.O JT):=λ{j fs} h=>by
   by_cases hj:i=j
   .subst hj;exact⟨ds,hi⟩
   .rw[q_ hj]at h;exact⟨fs,h⟩
  obtain⟨JT,G4⟩:=old h1;obtain⟨gs',h2'⟩:=old h2;exact R.ap j k JT gs' b hne G4 h2' h3 h4
theorem Rl.frz{ds:qE}(R:Rl K B Z H env σ){i:Nat}(hi:env[i]?=some (.O ds)):∃Z',Rl K B Z' H (env.set i (.F ds.d)) σ/\Ex Z B Z' H:=by
 obtain⟨x,e1,a,vs,e2,e3,hz,r⟩:=R.sl i _ hi;subst e2;have hb:=R.ob i ds a hi e1;have hl:i<env.length:=(o_.mp hi).1;have s1:aK Z (upd Z a vs):=dW hz;have s2:aK (upd Z a vs) H:=l9 R.zh e3;refine⟨upd Z a vs,⟨R.bh,s2,by simp[R.len],λj s h=>?_,λj fs b h h2=>?_,λj k fs gs b hne h1 h2 h3 h4=>?_⟩,⟨R.bh,s1,s2,λb hbn e=>?_,rQ (λ_ _ _ h=>h) r.nf⟩⟩
 .by_cases hj:i=j
  .subst hj;rw[D_ hl]at h;cases h;exact⟨_,e1,_,rfl,(r.mono s1).rep ax⟩
  .rw[q_ hj]at h;obtain⟨y,e4,q⟩:=R.sl j s h;refine⟨y,e4,?_⟩;cases s with
   | un=>trivial
   | F d=>obtain⟨v,e5,q⟩:=q;exact⟨v,e5,Rep.mono s1 d q⟩
   | O fs=>
    obtain⟨b,J9,e5,e6,e7,q⟩:=q;refine⟨b,J9,e5,e6,?_,q.mono s1⟩;rw[aH (λz=>?_)]
    .exact e7
    .subst z;subst e5;exact R.ap i j ds fs b hj hi h e1 e4
 .by_cases hj:i=j
  .subst hj;rw[D_ hl]at h;cases h
  .rw[q_ hj]at h;exact R.ob j fs b h h2
 .have DF:∀{j:Nat}{es:qE},(env.set i (.F ds.d))[j]?=some (.O es)->i≠j:=λ{j es} h z=>by
   subst z;rw[D_ hl]at h;cases h
  have n1:=DF h1;have n2:=DF h2;rw[q_ n1]at h1;rw[q_ n2]at h2;exact R.ap j k fs gs b hne h1 h2 h3 h4
 .rw[aH (λz=>hbn (by rw[z];exact hb))];exact e
end
abbrev Fe:=En->SW
abbrev Fb:=En->Option Bool
abbrev S3:Fb:=λ_=>some true
abbrev Fes:=En->SU
def T(K:Fg)(g:Gr)(f:Fe):TE:=λσ H Q=>∃env B Z d,Rl K B Z H env σ/\f env=some d/\∀v Z' H',Ex Z H Z' H'->Gd K Z' H H' g d v->Q v H'
def TB(K:Fg)(f:Fb):TT:=λσ H Q=>∃env B Z b,Rl K B Z H env σ/\f env=some b/\∀Z' H',Ex Z H Z' H'->Q b H'
def TL(K:Fg)(f:Fes):TA:=λσ H Q=>∃env B Z ds,Rl K B Z H env σ/\f env=some ds/\∀vs Z' H',Ex Z H Z' H'->ar K Z' ds vs->Q vs H'
def PD(X:Cx)(g:Gr)(e:SN)(f:Fe):Prop:=PE X e (T X.K g f)
def PB(X:Cx)(e:SN)(f:Fb):Prop:=PT X e (TB X.K f)
def GW(X:Cx)(e:SN)(f:Fb):Prop:=PW X e (TB X.K f)
structure PL(X:Cx)(es:List Expr)(f:Fes):Prop where
 p:PA X es (TL X.K f)
 l:∀env ds,f env=some ds->ds.length=es.length
section
variable {X:Cx}
theorem PE.imp(h:PE X e t)(i:∀σ H Q,t' σ H Q->t σ H Q):PE X e t':=λpins s σ H Q I q=>h pins s σ H Q I (i σ H Q q)
theorem PT.imp(h:PT X e t)(i:∀σ H Q,t' σ H Q->t σ H Q):PT X e t':=λpins s σ H Q I q=>h pins s σ H Q I (i σ H Q q)
theorem PW.imp(h:PW X e t)(i:∀σ H Q,t' σ H Q->t σ H Q):PW X e t':=λwh pins s σ H Q I q=>h wh pins s σ H Q I (i σ H Q q)
theorem PA.imp(h:PA X e t)(i:∀σ H Q,t' σ H Q->t σ H Q):PA X e t':=λpos pins s σ H Q I q=>h pos pins s σ H Q I (i σ H Q q)
def fC(d:D):Fe:=λ_=>some d
abbrev S2:Fe:=fC (.int 4)
abbrev S1:Fe:=fC (.int 3)
abbrev S0:Fe:=fC (.int 2)
abbrev SZ:Fe:=fC (.int 1)
abbrev SY:Fe:=fC (.int 0)
theorem BJ{K:Fg}{g:D}{v:V}{σ:L2.St}{H:Hp}{Q:VK}(h:T K .cl (fC g) σ H Q)(r:∀Z,Rep K Z g v):Q v H:=by
 obtain⟨env,B,Z,d,R,e,k⟩:=h;cases e;exact k v Z H (Ex.refl R.zh) (r Z)
theorem ag{i j pos}:PD X .cl (.Constant (.int i) j pos) (fC (.int i)):=PE.imp AI λ_ _ _ h=>BJ h λ_=>rfl
theorem uv{b j pos}:PD X .cl (.Constant (.bool b) j pos) (fC (.bl b)):=PE.imp JA λ_ _ _ h=>BJ h λ_=>rfl
theorem bH{x j pos}(hk:PyData.strOk x=true:=by decide +kernel):PD X .cl (.Constant (.str x) j pos) (fC (.str x)):=PE.imp E8 λ_ _ _ h=>BJ h λ_=>⟨rfl,hk⟩
theorem FV(hm:X.mg x=some u)(rv:RelV v u)(r:∀Z,Rep X.K Z d v)(hg:Gl X x:=by rfl)(hd:(x==("__debug__":Str))=false:=by decide) :
  PD X .cl (.Name x pos) (fC d):=PE.imp (CF hg hm rv hd) λ_ _ _ h=>BJ h r
def bf(env:En)(i:Nat):SW:=match env[i]? with | some (.F d)=>some d | _=>none
def zK(env:En)(i:Nat):SW:=match env[i]? with | some (.F d)=>some d | some (.O w)=>w.pd | _=>none
theorem ae(i:Nat)(hN:X.N[i]?=some x:=by rfl)(hv:wX X.env.scope x:=by first | exact Or.inl rfl | exact Or.inr (Or.inl rfl) | exact Or.inr (Or.inr rfl))(hd:(x==("__debug__":Str))=false:=by decide)
  (iP:(x==("__classdict__":Str))=false:=by decide):PD X .cl (.Name x pos) (λenv=>bf env i):=PE.imp (eO hN hv hd iP) λσ H Q h=>by
 obtain⟨env,B,Z,d,R,e,k⟩:=h;dsimp only[bf]at e
 split at e
 .rename_i d' h1;cases e;obtain⟨x,h2,v,h3,r⟩:=R.sl i _ h1;subst h3;exact⟨v,h2,k v Z H (Ex.refl R.zh) r⟩
 .cases e
theorem LW(i:Nat)(hN:X.N[i]?=some x:=by rfl)(hv:wX X.env.scope x:=by first | exact Or.inl rfl | exact Or.inr (Or.inl rfl) | exact Or.inr (Or.inr rfl))(hd:(x==("__debug__":Str))=false:=by decide)
  (iP:(x==("__classdict__":Str))=false:=by decide):PD X .pk (.Name x pos) (λenv=>zK env i):=PE.imp (eO hN hv hd iP) λσ H Q h=>by
 obtain⟨env,B,Z,d,R,e,k⟩:=h;dsimp only[zK]at e
 split at e
 .rename_i d' h1;cases e;obtain⟨x,h2,v,h3,r⟩:=R.sl i _ h1;subst h3;exact⟨v,h2,k v Z H (Ex.refl R.zh) (.inl r)⟩
 .rename_i ds h1;obtain⟨x,h2,a,vs,h3,h4,h5,r⟩:=R.sl i _ h1;subst h3;refine⟨_,h2,k _ Z H (Ex.refl R.zh) ?_⟩;cases ds with
  | I th ks ds=>cases e
  | L ds=>cases e;obtain⟨us,rfl,r⟩:=r;exact .inr (.inl ⟨a,us,ds,rfl,rfl,h4,r⟩)
  | T ks=>cases e;obtain⟨bs,rfl,r⟩:=r;exact .inr (.inr (.inl ⟨a,ks,rfl,rfl,bs,h4,r⟩))
  | M th ks ds=>cases e;obtain⟨bs,vs,rfl,r,t⟩:=r;exact .inr (.inr (.inr ⟨a,th,ks,ds,rfl,rfl,bs,vs,h4,r,t⟩))
 .cases e
theorem cV(h:PD X .nw e f):PD X .cl e f:=PE.imp h λσ H Q aG=>by
 obtain⟨env,B,Z,d,R,e,k⟩:=aG;refine⟨env,B,Z,d,R,e,λv Z' H' x g=>?_⟩;obtain⟨a,vs,ds,rfl,rfl,h1,h2,h3,r⟩:=g;have s1:aK Z' (upd Z' a (.lst vs)):=dW h3;exact k _ (upd Z' a (.lst vs)) H' ⟨x.h,x.z.trans s1,l9 x.zh h2,λb hb e=>by rw[aH (λz=>hb (by rw[z];exact h1))];exact x.fr b hb e,rQ x.nf KJ⟩ ⟨a,vs,rfl,cT.of ax,ar.mono s1 ds r⟩
theorem DW(h:PD X .nm e f):PD X .cl e f:=PE.imp h λσ H Q aG=>by
 obtain⟨env,B,Z,d,R,e,k⟩:=aG;refine⟨env,B,Z,d,R,e,λv Z' H' x g=>?_⟩;obtain⟨a,th,ks,ds,rfl,rfl,h1,⟨bs,vs,h2,hp,r⟩,h3⟩:=g;have s1:aK Z' (upd Z' a (.ext (fZ th a ks bs vs))):=dW h3;exact k _ (upd Z' a (.ext (fZ th a ks bs vs))) H' ⟨x.h,x.z.trans s1,l9 x.zh h2,λb hb e=>by rw[aH (λz=>hb (by rw[z];exact h1))];exact x.fr b hb e,rQ x.nf Im⟩ ⟨a,bs,vs,rfl,ax,hp.mono s1,ar.mono s1 ds r⟩
def fNil:Fes:=λ_=>some []
def aa(f:Fe)(fs:Fes):Fes:=λenv=>(f env).bind λd=>(fs env).bind λds=>some (d::ds)
theorem ao:PL X [] fNil:=⟨PA.imp c6 λσ H Q ⟨env,B,Z,ds,R,e,k⟩=>by cases e;exact k [] Z H (Ex.refl R.zh) rfl,λenv ds e=>by cases e;rfl⟩
theorem lO(h:aa f fs env=some ds):∃d r,f env=some d/\fs env=some r/\ds=d::r:=by
 unfold aa at h;refine cN λ_ kq=>?_;obtain⟨d,h1,h2⟩:=b_.mp h;obtain⟨r,h3,h4⟩:=b_.mp h2;cases h4;exact kq (⟨d,r,h1,h3,rfl⟩)
theorem ab(h:PD X .cl e f)(hs:PL X es fs)(hst:starEach (e::es) X.env=(false,eval e X.env)::starEach es X.env:=by rfl):PL X (e::es) (aa f fs):=by
 refine⟨PA.imp (bF h hs.p hst) λσ H Q ⟨env,B,Z,ds,R,e,k⟩=>?_,λenv ds e=>?_⟩
 .obtain⟨d,r,h1,h2,rfl⟩:=lO e;refine⟨env,B,Z,d,R,h1,λv Z1 H1 x1 g1=>⟨env,B,Z1,r,R.ext x1,h2,λvs Z2 H2 x2 g2=>?_⟩⟩;exact k (v::vs) Z2 H2 (x1.trans x2) ⟨v,vs,rfl,Rep.mono x2.z d g1,g2⟩
 .obtain⟨d,r,h1,h2,rfl⟩:=lO e;simp[hs.l env r h2]
def aP(fs:Fes):Fe:=λenv=>(fs env).bind λds=>some (.tup ds)
def bN(fs:Fes):Fe:=λenv=>(fs env).bind λds=>some (.lst ds)
theorem aR{x1 pos}(h:PL X es fs)(hl:es.length<=1000:=by decide):PD X .cl (.Tuple es x1 pos) (aP fs):=PE.imp (Gz h.p) λσ H Q aG=>by
 refine cN λ_ kq=>?_;obtain⟨env,B,Z,d,R,e,k⟩:=aG;obtain⟨ds,h1,h2⟩:=b_.mp e;cases h2;refine kq (⟨env,B,Z,ds,R,h1,λvs Z1 H1 x1 r=>⟨?_,λp hp=>?_⟩⟩)
 all_goals clear kq
 .rw[<- r.len,h.l env ds h1];exact Pl (nY hl)
 .have s1:aK Z1 (upd Z1 p (.tup vs)):=dW (x1.zh.free hp);exact k _ (upd Z1 p (.tup vs)) _ (x1.trans (Ex.new x1.zh hp)) ⟨p,vs,rfl,cH.of ax,ar.mono s1 ds r⟩
theorem bU{pos}(h:PL X es fs)(hl:es.length<=1000:=by decide):PD X .nw (.List es pos) (bN fs):=PE.imp (ER h.p) λσ H Q aG=>by
 refine cN λ_ kq=>?_;obtain⟨env,B,Z,d,R,e,k⟩:=aG;obtain⟨ds,h1,h2⟩:=b_.mp e;cases h2;refine kq (⟨env,B,Z,ds,R,h1,λvs Z1 H1 x1 r=>⟨?_,λp hp=>?_⟩⟩)
 all_goals clear kq
 .rw[<- r.len,h.l env ds h1];exact Pl (nY hl)
 .exact k _ Z1 _ (x1.trans (Ex.newL x1.zh hp)) ⟨p,vs,ds,rfl,rfl,x1.h.free hp,ax,x1.zh.free hp,r⟩
theorem ma[Decidable c](h:(if c then some a else none)=some d):c/\a=d:=by
 by_cases hc:c
 .rw[k_ hc]at h;exact⟨hc,Option.some.inj h⟩
 .rw[l_ hc]at h;cases h
theorem Oj[Decidable c](h:(if c then none else some a)=some d):¬c/\a=d:=by
 by_cases hc:c
 .rw[k_ hc]at h;cases h
 .rw[l_ hc]at h;exact⟨hc,Option.some.inj h⟩
def ai(b:D->D->SW)(fa fb:Fe):Fe:=λenv=>(fa env).bind λx=>(fb env).bind λy=>b x y
theorem sD(h:ai b fa fb env=some d):∃x y,fa env=some x/\fb env=some y/\b x y=some d:=by
 unfold ai at h;refine cN λ_ kq=>?_;obtain⟨x,h1,h2⟩:=b_.mp h;obtain⟨y,h3,h4⟩:=b_.mp h2;exact kq (⟨x,y,h1,h3,h4⟩)
theorem Gd.frm{K:Fg}{Z' H0 H H':Hp}{g:Gr}{d:D}{v:V}(s:aK H0 H)(h:Gd K Z' H H' g d v):Gd K Z' H0 H' g d v:=by
 cases g with
 | pk=>exact h
 | cl=>exact h
 | nw=>obtain⟨a,vs,ds,e1,e2,e3,e4⟩:=h;exact⟨a,vs,ds,e1,e2,s.free e3,e4⟩
 | nd=>obtain⟨a,ks,e1,e2,e3,e4⟩:=h;exact⟨a,ks,e1,e2,s.free e3,e4⟩
 | nm=>obtain⟨a,th,ks,ds,e1,e2,e3,e4⟩:=h;exact⟨a,th,ks,ds,e1,e2,s.free e3,e4⟩
def cI(K:Fg)(g:Gr)(b:D->D->SW)(r:R2):Prop:=
 ∀{Z H:Hp}{x y:V}{dx dy d:D}{Q:VK},aK Z H->Gd K Z H H .pk dx x->Gd K Z H H .pk dy y->b dx dy=some d->(∀v Z' H',Ex Z H Z' H'->Gd K Z' H H' g d v->Q v H')->r x y H Q
theorem hJ{K:Fg}{g ga gb:Gr}{b:D->D->SW}{r:R2}(hb:cI K g b r){fa fb:Fe}{σ:L2.St}{H:Hp}{Q:VK}(h:T K g (ai b fa fb) σ H Q):HD r (T K ga fa) (T K gb fb) σ H Q:=by
 refine cN λ_ kq=>?_;obtain⟨env,B,Z,d,R,e,k⟩:=h;obtain⟨dx,dy,h1,h2,h3⟩:=sD e;refine kq (⟨env,B,Z,dx,R,h1,λv Z1 H1 x1 g1=>⟨env,B,Z1,dy,R.ext x1,h2,λu Z2 H2 x2 g2=>?_⟩⟩)
 all_goals clear kq
 refine hb x2.zh (g1.later x2) (show Gd K Z2 H2 H2 .pk dy u from g2.pk) h3 λw Z3 H3 x3 g3=>?_;exact k w Z3 H3 ((x1.trans x2).trans x3) (Gd.frm (x1.h.trans x2.h) g3)
theorem nk(ho:ip X (binaryOp op) r)(hd:cI X.K g b r)(ha:PD X ga l fa)(hb:PD X gb rr fb) :
  PD X g (.BinOp l op rr pos) (ai b fa fb):=PE.imp (Ey ho ha hb) λ_ _ _ h=>hJ hd h
theorem vR(ho:ip X (compareOp op) r)(hd:cI X.K g b r)(ha:PD X ga l fa)(hb:PD X gb rr fb)(hm:behindInMarks op rr=false:=by rfl) :
  PD X g (.Compare l [op] [rr] pos) (ai b fa fb):=PE.imp (Cf ho ha hb hm) λ_ _ _ h=>hJ hd h
def Nk:D->Option Bool
 | .bl b=>some b
 | _=>none
def fB(f:Fe):Fb:=λenv=>(f env).bind Nk
theorem y0(h:Nk d=some b):d=.bl b:=by
 cases d<;>cases h;rfl
theorem z5{K:Fg}{g:Gr}{f:Fe}{σ:L2.St}{H:Hp}{Q:Bool->Hp->Prop}(h:TB K (fB f) σ H Q):T K g f σ H (λx H'=>∃k,x=.bl k/\Q k H'):=by
 refine cN λ_ kq=>?_;obtain⟨env,B,Z,b,R,e,k⟩:=h;obtain⟨d,h1,h2⟩:=b_.mp e;cases y0 h2;exact kq (⟨env,B,Z,_,R,h1,λv Z' H' x g=>⟨b,g.bl,k Z' H' x⟩⟩)
theorem l4(ho:ip X (compareOp op) r)(hd:cI X.K .cl b r)(ha:PD X ga l fa)(hb:PD X gb rr fb)(hm:behindInMarks op rr=false:=by rfl) :
  PB X (.Compare l [op] [rr] pos) (fB (ai b fa fb)):=PT.imp (Cr ho ha hb hm) λ_ _ _ h=>hJ hd (z5 h)
theorem vd(h:PD X g e f)(he:∀whole,isTrue e X.env whole=(do let v <- whole;standAt e.pos;holding [v] (truthy v)):=by intro _;rfl):PB X e (fB f):=
 PT.imp (EI h he) λ_ _ _ h=>z5 h
def iF(g:Int->Int->D):D->D->SW
 | .int i,.int j=>some (g i j)
 | _,_=>none
theorem hV{K:Fg}{g:Int->Int->V}{g':Int->Int->D}(hg:∀Z i j,Rep K Z (g' i j) (g i j)):cI K .cl (iF g') (tN g):=λ{Z H x y dx dy d Q} s h1 h2 e k=>by
 cases dx<;>try cases e
 all_goals (cases dy<;>cases e)
 exact⟨_,_,h1.int,h2.int,k _ Z H (Ex.refl s) (hg _ _ _)⟩
def Ja(c:Int->Int->Bool)(g:Int->Int->D):D->D->SW
 | .int i,.int j=>if c i j then some (g i j)else none
 | _,_=>none
theorem mI{K:Fg}{C:Int->Int->Prop}{c:Int->Int->Bool}{g:Int->Int->V}{g':Int->Int->D}(hc:∀i j,c i j=true->C i j)(hg:∀Z i j,Rep K Z (g' i j) (g i j)):cI K .cl (Ja c g') (rI C g):=λ{Z H x y dx dy d Q} s h1 h2 e k=>by
 cases dx<;>try cases e
 all_goals (cases dy<;>try cases e)
 rename_i i j;have e':(if c i j=true then some (g' i j)else none)=some d:=e
 by_cases Bn:c i j=true
 .rw[k_ Bn]at e';cases e';exact⟨_,_,h1.int,h2.int,hc _ _ Bn,k _ Z H (Ex.refl s) (hg _ _ _)⟩
 .rw[l_ Bn]at e';cases e'
abbrev addI:=iF λi j=>.int (i+j)
abbrev subI:=iF λi j=>.int (i-j)
abbrev ltI:=iF λi j=>.bl (decide (i<j))
abbrev leI:=iF λi j=>.bl (decide (i<=j))
abbrev gtI:=iF λi j=>.bl (decide (j<i))
def big(i:Int):Bool:=decide (i.natAbs<2 ^ 4096)
abbrev mulI:=Ja (λi j=>(big i&&big j)) λi j=>.int (i*j)
abbrev fdivI:=Ja (λ_ j=>decide (0<j/\j<1073741824)) λi j=>.int (i/j)
abbrev modI:=Ja (λ_ j=>decide (0<j)) λi j=>.int (i%j)
abbrev powI:=Ja (λi j=>big i&&decide (0<=j/\j<=1000)) λi j=>.int (i ^ j.toNat)
theorem Ii{K:Fg}:cI K .cl addI (tN λi j=>.int (i+j)):=hV (by intro _ _ _;rfl)
theorem HW{K:Fg}:cI K .cl subI (tN λi j=>.int (i-j)):=hV (by intro _ _ _;rfl)
theorem Gi{K:Fg}:cI K .cl ltI (tN λi j=>.bl (decide (i<j))):=hV (by intro _ _ _;rfl)
theorem FP{K:Fg}:cI K .cl leI (tN λi j=>.bl (decide (i<=j))):=hV (by intro _ _ _;rfl)
theorem Lu{K:Fg}:cI K .cl gtI (tN λi j=>.bl (decide (j<i))):=hV (by intro _ _ _;rfl)
theorem FE{K:Fg}:cI K .cl fdivI (rI IX λi j=>.int (i/j)):=mI (λi j h=>OD h) (by intro _ _ _;rfl)
theorem IK{K:Fg}:cI K .cl modI (rI (λ_ j=>0<j) λi j=>.int (i%j)):=mI (λi j h=>OD h) (by intro _ _ _;rfl)
theorem lB(h:big i=true):Builtin.Int.intBits i<=4096:=by
 have h':i.natAbs<2 ^ 4096:=OD h;unfold Builtin.Int.intBits
 split
 .lia
 .rename_i hz;have hn:i.natAbs≠0:=by simpa using hz
  have:=(Nat.log2_lt hn).mpr h'
  lia
def D7(i j:Int):Prop:=big i=true/\big j=true
theorem CS:ip X (binaryOp .Mult) (rI D7 λi j=>.int (i*j)):=Jy λ_ _ _ _ _ _ _ hc q=>mul_int q (.of_bits (C_ (lB hc.1) (by decide)) (C_ (lB hc.2) (by decide)))
theorem JL{K:Fg}:cI K .cl mulI (rI D7 λi j=>.int (i*j)):=mI (λi j h=>by
 simp only[A_]at h;exact h) (by intro _ _ _;rfl)
def DN(i j:Int):Prop:=big i=true/\0<=j/\j<=1000
theorem CG:ip X (binaryOp .Pow) (rI DN λi j=>.int (i ^ j.toNat)):=Jy λi j _ _ _ _ _ hc q=>pow_int hc.2.1 (by
 have h1:(Builtin.Int.intBits i:Int)<=4096:=by have:=lB hc.1;lia
 have h2:(Builtin.Int.intBits i:Int)*j<=4096*1000:=Int.mul_le_mul h1 hc.2.2 hc.2.1 (by decide);exact QX h2 (by decide)) q
theorem Jr{K:Fg}:cI K .cl powI (rI DN λi j=>.int (i ^ j.toNat)):=mI (λi j h=>by
 simp only[A_,w_]at h;exact⟨h.1,h.2.1,h.2.2⟩) (by intro _ _ _;rfl)
variable {l r c:SN}{fa fb fc:Fe}{ga gb gc:Gr}{pos:Pos}
theorem aY(ha:PD X ga l fa)(hb:PD X gb r fb):PD X .cl (.BinOp l .Add r pos) (ai addI fa fb):=nk Ff Ii ha hb
theorem jz(ha:PD X ga l fa)(hb:PD X gb r fb):PD X .cl (.BinOp l .Sub r pos) (ai subI fa fb):=nk FC HW ha hb
theorem kB(ha:PD X ga l fa)(hb:PD X gb r fb):PD X .cl (.BinOp l .Mult r pos) (ai mulI fa fb):=nk CS JL ha hb
theorem jT(ha:PD X ga l fa)(hb:PD X gb r fb):PD X .cl (.BinOp l .FloorDiv r pos) (ai fdivI fa fb):=nk BW FE ha hb
theorem bA(ha:PD X ga l fa)(hb:PD X gb r fb):PD X .cl (.BinOp l .Mod r pos) (ai modI fa fb):=nk FY IK ha hb
theorem mz(ha:PD X ga l fa)(hb:PD X gb r fb):PD X .cl (.BinOp l .Pow r pos) (ai powI fa fb):=nk CG Jr ha hb
theorem Lf(ha:PD X ga l fa)(hb:PD X gb r fb):PB X (.Compare l [.Lt] [r] pos) (fB (ai ltI fa fb)):=l4 Aa Gi ha hb (gF _)
theorem IB(ha:PD X ga l fa)(hb:PD X gb r fb):PB X (.Compare l [.LtE] [r] pos) (fB (ai leI fa fb)):=l4 zW FP ha hb (gF _)
theorem Md(ha:PD X ga l fa)(hb:PD X gb r fb):PB X (.Compare l [.Gt] [r] pos) (fB (ai gtI fa fb)):=l4 Jg Lu ha hb (gF _)
def bc(g:D->SW)(f:Fe):Fe:=λenv=>(f env).bind g
def gw:D->SW
 | .int i=>some (.int (-i))
 | _=>none
theorem iy(ha:PD X ga l fa):PD X .cl (.UnaryOp .USub l pos) (bc gw fa):=PE.imp (D4 zS ha) λσ H Q aG=>by
 refine cN λ_ kq=>?_;obtain⟨env,B,Z,d,R,e,k⟩:=aG;obtain⟨x,h1,h2⟩:=b_.mp e;refine kq (⟨env,B,Z,x,R,h1,λv Z1 H1 x1 g1=>?_⟩)
 all_goals clear kq
 cases x<;>cases h2;exact⟨_,g1.int,k _ Z1 H1 x1 rfl⟩
def GN(f g:Fe):Fe:=λenv=>(f env).bind λx=>match x with | .bl true=>some (.bl true) | .bl false=>g env | _=>none
variable {rest:Sw}{fr:Fe}{gr:Gr}
theorem JG{op}(ha:PD X ga l fa):PD X ga (.BoolOp op [l] pos) fa:=FD ha
theorem IF(ha:PD X ga l fa)(hb:PD X .cl (.BoolOp .Or (r::rest) pos) fr):PD X .cl (.BoolOp .Or (l::r::rest) pos) (GN fa fr):=PE.imp (IH ha hb) λσ H Q aG=>by
 refine cN λ_ kq=>?_;obtain⟨env,B,Z,d,R,e,k⟩:=aG;obtain⟨x,h1,h2⟩:=b_.mp e;refine kq (⟨env,B,Z,x,R,h1,λv Z1 H1 x1 g1=>?_⟩)
 all_goals clear kq
 cases x with
 | bl b=>
  refine⟨b,g1.bl,?_⟩;cases b with
  | false=>exact wL ⟨env,B,Z1,d,R.ext x1,h2,λu Z2 H2 x2 g2=>k u Z2 H2 (x1.trans x2) g2⟩
  | true=>cases h2;exact xk (k _ Z1 H1 x1 rfl)
 | _=>cases h2
def rh(f g:Fb):Fb:=λenv=>(f env).bind λx=>if x=true then g env else some false
def AC(f g:Fb):Fb:=λenv=>(f env).bind λx=>if x=true then some true else g env
def xr(f:Fb):Fb:=λenv=>(f env).bind λx=>some !x
variable {ta tb:Fb}
theorem yM(ha:PB X l ta):GW X (.BoolOp .And [l] pos) ta:=BB ha
theorem vp(ha:PB X l ta):GW X (.BoolOp .Or [l] pos) ta:=EY ha
theorem w_and(ha:PB X l ta)(hb:GW X (.BoolOp .And (r::rest) pos) tb):GW X (.BoolOp .And (l::r::rest) pos) (rh ta tb):=PW.imp (GH ha hb) λσ H Q aG=>by
 refine cN λ_ kq=>?_;obtain⟨env,B,Z,d,R,e,k⟩:=aG;obtain⟨x,h1,h2⟩:=b_.mp e;refine kq (⟨env,B,Z,x,R,h1,λZ1 H1 x1=>?_⟩)
 all_goals clear kq
 cases x with
 | true=>rw[k_ rfl]at h2;exact xk ⟨env,B,Z1,d,R.ext x1,h2,λZ2 H2 x2=>k Z2 H2 (x1.trans x2)⟩
 | false=>rw[l_ (by simp)]at h2;cases h2;exact wL (k Z1 H1 x1)
theorem w_or(ha:PB X l ta)(hb:GW X (.BoolOp .Or (r::rest) pos) tb):GW X (.BoolOp .Or (l::r::rest) pos) (AC ta tb):=PW.imp (IA ha hb) λσ H Q aG=>by
 refine cN λ_ kq=>?_;obtain⟨env,B,Z,d,R,e,k⟩:=aG;obtain⟨x,h1,h2⟩:=b_.mp e;refine kq (⟨env,B,Z,x,R,h1,λZ1 H1 x1=>?_⟩)
 all_goals clear kq
 cases x with
 | false=>rw[l_ (by simp)]at h2;exact wL ⟨env,B,Z1,d,R.ext x1,h2,λZ2 H2 x2=>k Z2 H2 (x1.trans x2)⟩
 | true=>rw[k_ rfl]at h2;cases h2;exact xk (k Z1 H1 x1)
theorem Hv(h:GW X l ta):PB X l ta:=PW.pt h
theorem Eu(ha:PB X l ta):PB X (.UnaryOp .Not l pos) (xr ta):=PT.imp (GK ha) λσ H Q aG=>by
 refine cN λ_ kq=>?_;obtain⟨env,B,Z,d,R,e,k⟩:=aG;obtain⟨x,h1,h2⟩:=b_.mp e;cases h2;exact kq (⟨env,B,Z,x,R,h1,λZ1 H1 x1=>k Z1 H1 x1⟩)
def iteFn(t:Fb)(f g:Fe):Fe:=λenv=>(t env).bind λb=>if b=true then f env else g env
theorem DV(ht:PB X t ta)(ha:PD X g l fa)(hb:PD X g r fb):PD X g (.IfExp t l r pos) (iteFn ta fa fb):=PE.imp (AD ht ha hb) λσ H Q aG=>by
 refine cN λ_ kq=>?_;obtain⟨env,B,Z,d,R,e,k⟩:=aG;obtain⟨x,h1,h2⟩:=b_.mp e;refine kq (⟨env,B,Z,x,R,h1,λZ1 H1 x1=>?_⟩)
 all_goals clear kq
 cases x with
 | true=>rw[k_ rfl]at h2;exact xk ⟨env,B,Z1,d,R.ext x1,h2,λv Z2 H2 x2 g2=>k v Z2 H2 (x1.trans x2) (g2.frm x1.h)⟩
 | false=>rw[l_ (by simp)]at h2;exact wL ⟨env,B,Z1,d,R.ext x1,h2,λv Z2 H2 x2 g2=>k v Z2 H2 (x1.trans x2) (g2.frm x1.h)⟩
def DM(b b':D->D->SW)(fa fb fc:Fe):Fe:=λenv=>(fa env).bind λx=>(fb env).bind λy=>(b x y).bind λz=>match z with
 | .bl true=>(fc env).bind λw=>b' y w
 | .bl false=>some (.bl false)
 | _=>none
theorem BF{K:Fg}{b b':D->D->SW}{r r':R2}(hb:cI K .cl b r)(yc:cI K .cl b' r'){σ:L2.St}{H:Hp}{Q:VK}(h:T K .cl (DM b b' fa fb fc) σ H Q):yR r r' (T K ga fa) (T K gb fb) (T K gc fc) σ H Q:=by
 refine cN λ_ kq=>?_;obtain⟨env,B,Z,d,R,e,k⟩:=h;obtain⟨dx,h1,e⟩:=b_.mp e;obtain⟨dy,h2,e⟩:=b_.mp e;obtain⟨dz,h3,e⟩:=b_.mp e;refine kq (⟨env,B,Z,dx,R,h1,λv Z1 H1 x1 g1=>⟨env,B,Z1,dy,R.ext x1,h2,λu Z2 H2 x2 g2=>?_⟩⟩)
 all_goals clear kq
 refine hb x2.zh (g1.later x2) (show Gd K Z2 H2 H2 .pk dy u from g2.pk) h3 λz Z3 H3 x3 g3=>?_;cases dz with
 | bl t=>
  refine⟨t,g3.bl,?_⟩;cases t with
  | false=>cases e;exact wL (k _ Z3 H3 ((x1.trans x2).trans x3) rfl)
  | true=>
   obtain⟨dw,h4,h5⟩:=b_.mp e;refine xk ⟨env,B,Z3,dw,((R.ext x1).ext x2).ext x3,h4,λw Z4 H4 x4 g4=>?_⟩;refine yc x4.zh (show Gd K Z4 H4 H4 .pk dy u from Gd.later x4 (Gd.later (H3:=H3) x3 g2)) (show Gd K Z4 H4 H4 .pk dw w from g4.pk) h5 λq Z5 H5 x5 g5=>?_;exact k q Z5 H5 (((x1.trans x2).trans x3).trans (x4.trans x5)) g5
 | _=>cases e
theorem vv(ho:ip X (compareOp op) r1)(ho':ip X (compareOp op') r2)(hd:cI X.K .cl b r1)(JU:cI X.K .cl b' r2)(ha:PD X ga l fa)(hb:PD X gb r fb)(hc:PD X gc c fc)
  (hm:lastMarks [op,op'] [r,c]=false:=by with_unfolding_all rfl):PB X (.Compare l [op,op'] [r,c] pos) (fB (DM b b' fa fb fc)):=PT.imp (AV ho ho' ha hb hc hm) λ_ _ _ h=>BF hd JU (z5 h)
end
section
variable {X:Cx}{l r c:SN}{fa fb fc:Fe}{ga gb gc:Gr}{pos p:Pos}
def ay:D->D->SW
 | .lst ds,.int i=>atI ds i
 | .tup ds,.int i=>atI ds i
 | _,_=>none
theorem ar.atI{K:Fg}{H:Hp}{ds:SV}{vs:SX}{i:Int}{d:D}(h:ar K H ds vs)(e:L2.atI ds i=some d):∃v,L2.atI vs i=some v/\Rep K H d v:=by
 unfold L2.atI at e ⊢;rw[<- h.len];refine cN λ_ kq=>?_;obtain⟨j,h1,h2⟩:=b_.mp e;obtain⟨v,h3,h4⟩:=h.get h2;exact kq (⟨v,by rw[h1];exact h3,h4⟩)
theorem IL{K:Fg}:cI K .cl ay (λx y H Q=>JB K x y H Q\/Jp K x y H Q):=λ{Z H x y dx dy d Q} s h1 h2 e k=>by
 cases dx<;>try cases e
 all_goals (cases dy<;>try cases e)
 .rename_i ds i;refine cN λ_ kq=>?_;obtain⟨a,vs,rfl,hq,rr⟩:=h1.tup s;obtain⟨v,e1,e2⟩:=rr.atI e;exact kq (.inr ⟨a,vs,i,v,rfl,h2.int,hq,e1,k v Z H (Ex.refl s) e2⟩)
 .rename_i ds i;refine cN λ_ kq=>?_;obtain⟨a,vs,rfl,hq,rr⟩:=h1.lst s;obtain⟨v,e1,e2⟩:=rr.atI e;exact kq (.inl ⟨a,vs,i,v,rfl,h2.int,hq,e1,k v Z H (Ex.refl s) e2⟩)
theorem aJ(ha:PD X ga l fa)(hb:PD X gb r fb)(hs:wa r:=by intro _ _;rfl):PD X .cl (.Subscript l r pos) (ai ay fa fb):=PE.imp (HP (Di.or GT) ha hb hs) λ_ _ _ h=>hJ IL h
abbrev Fo:=En->Option (Option Int)
def Os(K:Fg)(f:Fo):TO:=λσ H Q=>∃env B Z o,Rl K B Z H env σ/\f env=some o/\∀Z' H',Ex Z H Z' H'->Q o H'
def CH(X:Cx)(e:Option SN)(f:Fo):Prop:=PO X e (Os X.K f)
theorem PO.imp(h:PO X e t)(i:∀σ H Q,t' σ H Q->t σ H Q):PO X e t':=λpins s σ H Q I q=>h pins s σ H Q I (i σ H Q q)
def oNone:Fo:=λ_=>some none
def cD(f:Fe):Fo:=λenv=>(f env).bind λd=>match d with | .int i=>some (some i) | _=>none
theorem l7:CH X none oNone:=PO.imp CY λσ H Q ⟨env,B,Z,o,R,e,k⟩=>by cases e;exact k Z H (Ex.refl R.zh)
theorem jV(h:PD X ga l fa):CH X (some l) (cD fa):=PO.imp (vC h) λσ H Q aG=>by
 refine cN λ_ kq=>?_;obtain⟨env,B,Z,o,R,e,k⟩:=aG;obtain⟨d,h1,h2⟩:=b_.mp e;refine kq (⟨env,B,Z,d,R,h1,λv Z' H' x g=>?_⟩)
 all_goals clear kq
 cases d<;>cases h2;exact⟨_,g.int,k Z' H' x⟩
def cutD(ds:SV)(lo hi:Option Int):SV:=(ds.drop (HT.cO ds.length 0 lo)).take (HT.cO ds.length ds.length hi-HT.cO ds.length 0 lo)
theorem ar.cut{K:Fg}{H:Hp}{ds:SV}{vs:SX}(h:ar K H ds vs)(lo hi:Option Int):ar K H (cutD ds lo hi) (qi vs lo hi):=by
 unfold cutD qi;rw[<- h.len];exact(h.drop _).take _
def tG(b:D->Option Int->Option Int->SW)(f:Fe)(lo hi:Fo):Fe:=λenv=>(f env).bind λx=>(lo env).bind λi=>(hi env).bind λj=>b x i j
def mH:D->Option Int->Option Int->SW
 | .lst ds,lo,hi=>some (.lst (cutD ds lo hi))
 | _,_,_=>none
variable {lo hi:Option SN}{fl fh:Fo}{p2:Pos}
theorem Ec(ha:PD X ga l fa)(hl:CH X lo fl)(hh:CH X hi fh):PD X .nw (.Subscript l (.Slice lo hi none p2) pos) (tG mH fa fl fh):=PE.imp (sx BP ha hl hh) λσ H Q aG=>by
 refine cN λ_ kq=>?_;obtain⟨env,B,Z,d,R,e,k⟩:=aG;obtain⟨x,h1,e⟩:=b_.mp e;obtain⟨i,h2,e⟩:=b_.mp e;obtain⟨j,h3,e⟩:=b_.mp e;cases x<;>cases e;rename_i ds;refine kq (⟨env,B,Z,_,R,h1,λv Z1 H1 x1 g1=>⟨env,B,Z1,i,R.ext x1,h2,λZ2 H2 x2=>⟨env,B,Z2,j,(R.ext x1).ext x2,h3,λZ3 H3 x3=>?_⟩⟩⟩)
 all_goals clear kq
 obtain⟨a,vs,rfl,hq,rr⟩:=Gd.lst x3.zh (Gd.later (H3:=H3) x3 (Gd.later (H3:=H3) x2 g1));refine⟨a,vs,rfl,hq,λq hp=>?_⟩;have x0:=(x1.trans x2).trans x3;exact k _ Z3 _ (x0.trans (Ex.newL x3.zh hp)) ⟨q,_,_,rfl,rfl,x0.h.free hp,ax,x3.zh.free hp,rr.cut i j⟩
def gH:D->Option Int->Option Int->SW
 | .tup ds,lo,hi=>if HT.cO ds.length 0 lo=0/\HT.cO ds.length ds.length hi=ds.length then none else some (.tup (cutD ds lo hi))
 | _,_,_=>none
theorem Et(ha:PD X ga l fa)(hl:CH X lo fl)(hh:CH X hi fh):PD X .cl (.Subscript l (.Slice lo hi none p2) pos) (tG gH fa fl fh):=PE.imp (sx EL ha hl hh) λσ H Q aG=>by
 obtain⟨env,B,Z,d,R,e,k⟩:=aG;obtain⟨x,h1,e⟩:=b_.mp e;obtain⟨i,h2,e⟩:=b_.mp e;obtain⟨j,h3,e⟩:=b_.mp e;cases x<;>try cases e
 rename_i ds;obtain⟨hn,rfl⟩:=Oj e
 .refine⟨env,B,Z,_,R,h1,λv Z1 H1 x1 g1=>⟨env,B,Z1,i,R.ext x1,h2,λZ2 H2 x2=>⟨env,B,Z2,j,(R.ext x1).ext x2,h3,λZ3 H3 x3=>?_⟩⟩⟩;obtain⟨a,vs,rfl,hq,rr⟩:=Gd.tup x3.zh (Gd.later (H3:=H3) x3 (Gd.later (H3:=H3) x2 g1));refine⟨a,vs,rfl,hq,by rw[<- rr.len];exact hn,λq hp=>?_⟩;have x0:=(x1.trans x2).trans x3;have s1:aK Z3 (upd Z3 q (.tup (qi vs i j))):=dW (x3.zh.free hp);exact k _ _ _ (x0.trans (Ex.new x3.zh hp)) ⟨q,_,rfl,cH.of ax,ar.mono s1 _ (rr.cut i j)⟩
def ni:D->D->SW
 | .lst xs,.lst ys=>if xs.length+ys.length<=16000000 then some (.lst (xs++ys))else none
 | _,_=>none
theorem GL(h:n<=16000000):n<=sizeLine:=by rw[OJ];lia
theorem GX{K:Fg}:cI K .nw ni (λx y H Q=>∃l b xs zs,x=.ref l/\y=.ref b/\cT K H l xs/\cT K H b zs/\xs.length+zs.length<=sizeLine/\∀p,H p=none->Q (.ref p) (upd H p (.lst (xs++zs)))):=λ{Z H x y dx dy d Q} s h1 h2 e k=>by
 cases dx<;>try cases e
 all_goals (cases dy<;>try cases e)
 rename_i xs ys;obtain⟨hl,rfl⟩:=ma e
 .obtain⟨a,vs,rfl,q1,r1⟩:=h1.lst s;obtain⟨b,us,rfl,q2,r2⟩:=h2.lst s;refine⟨a,b,vs,us,rfl,rfl,q1,q2,by rw[<- r1.len,<- r2.len];exact GL hl,λp hp=>?_⟩;exact k _ Z _ (Ex.newL s hp) ⟨p,_,_,rfl,rfl,hp,ax,s.free hp,r1.app r2⟩
def gN(K:Fg)(g:Gr)(b:D->SW)(r:SX->Hp->VK->Prop):Prop:=
 ∀{Z H:Hp}{x:V}{dx d:D}{Q:VK},aK Z H->Gd K Z H H .pk dx x->b dx=some d->(∀v Z' H',Ex Z H Z' H'->Gd K Z' H H' g d v->Q v H')->r [x] H Q
theorem lD{K:Fg}{g:Gr}{b:D->SW}{rr:SX->Hp->VK->Prop}(hb:gN K g b rr){σ:L2.St}{H:Hp}{Q:VK}(h:T K g (bc b fa) σ H Q):KA rr (vV (T K ga fa) tNil) σ H Q:=by
 refine cN λ_ kq=>?_;obtain⟨env,B,Z,d,R,e,k⟩:=h;obtain⟨x,h1,h2⟩:=b_.mp e;refine kq (⟨env,B,Z,x,R,h1,λv Z1 H1 x1 g1=>?_⟩)
 all_goals clear kq
 exact hb x1.zh (show Gd K Z1 H1 H1 .pk x v from g1.pk) h2 λw Z2 H2 x2 g2=>k w Z2 H2 (x1.trans x2) (g2.frm x1.h)
variable {x:Str}{id TT:String}{g:Gr}{b:D->SW}{rr:SX->Hp->VK->Prop}
theorem r6(hc:dq X (.builtin id) rr)(hd:gN X.K g b rr)(hv:bootBuiltins x=some (.builtin id))(hm:X.mg x=none)(ha:PD X ga l fa)(hn:x≠"__name__":=by decide)(sS:(x==("__debug__":Str))=false:=by decide)(hg:Gl X x:=by rfl)
  (he:starEach [l] X.env=[(false,eval l X.env)]:=by rfl):PD X g (.Call (.Name x p) [l] [] pos) (bc b fa):=PE.imp (jj hc hg hm hv (bF ha c6 he) hn sS he rfl) λ_ _ _ h=>lD hd h
theorem zt(hc:dq X (.type TT) rr)(hd:gN X.K g b rr)(hv:bootBuiltins x=some (.type TT))(hm:X.mg x=none)(ha:PD X ga l fa)(hn:x≠"__name__":=by decide)(sS:(x==("__debug__":Str))=false:=by decide)(hg:Gl X x:=by rfl)
  (he:starEach [l] X.env=[(false,eval l X.env)]:=by rfl):PD X g (.Call (.Name x p) [l] [] pos) (bc b fa):=PE.imp (xG hc hg hm hv (bF ha c6 he) hn sS he rfl) λ_ _ _ h=>lD hd h
def bY:D->SW
 | .lst ds=>some (.int ds.length)
 | .tup ds=>some (.int ds.length)
 | _=>none
theorem HX{K:Fg}:gN K .cl bY (λxs H Q=>∃p ys,xs=[.ref p]/\(cT K H p ys\/cH K H p ys)/\Q (.int ys.length) H):=λ{Z H x dx d Q} s h e k=>by
 cases dx<;>cases e
 .obtain⟨a,vs,rfl,q,r⟩:=h.tup s;exact⟨a,vs,rfl,.inr q,k _ Z H (Ex.refl s) (by rw[r.len];rfl)⟩
 .obtain⟨a,vs,rfl,q,r⟩:=h.lst s;exact⟨a,vs,rfl,.inl q,k _ Z H (Ex.refl s) (by rw[r.len];rfl)⟩
theorem fq(hm:X.mg "len"=none)(ha:PD X ga l fa)(hg:Gl X "len":=by rfl)(he:starEach [l] X.env=[(false,eval l X.env)]:=by rfl):PD X .cl (.Call (.Name "len" p) [l] [] pos) (bc bY fa):=
 r6 pX HX PySem.boot_len hm ha (by decide) (by decide) hg he
def oQ:D->SW
 | .lst ds=>some (.lst ds)
 | .tup ds=>some (.lst ds)
 | _=>none
theorem Gy{K:Fg}:gN K .nw oQ (λxs H Q=>∃p ys,xs=[.ref p]/\(cT K H p ys\/cH K H p ys)/\∀l,H l=none->Q (.ref l) (upd H l (.lst ys))):=λ{Z H x dx d Q} s h e k=>by
 cases dx<;>cases e
 .obtain⟨a,vs,rfl,q,r⟩:=h.tup s;exact⟨a,vs,rfl,.inr q,λp hp=>k _ Z _ (Ex.newL s hp) ⟨p,_,_,rfl,rfl,hp,ax,s.free hp,r⟩⟩
 .obtain⟨a,vs,rfl,q,r⟩:=h.lst s;exact⟨a,vs,rfl,.inl q,λp hp=>k _ Z _ (Ex.newL s hp) ⟨p,_,_,rfl,rfl,hp,ax,s.free hp,r⟩⟩
theorem EM(hm:X.mg "list"=none)(ha:PD X ga l fa)(hg:Gl X "list":=by rfl)(he:starEach [l] X.env=[(false,eval l X.env)]:=by rfl):PD X .nw (.Call (.Name "list" p) [l] [] pos) (bc oQ fa):=
 zt qy Gy QY hm ha (by decide) (by decide) hg he
def j6:D->SW
 | .lst ds=>some (.tup ds)
 | .tup ds=>some (.tup ds)
 | _=>none
theorem BV{K:Fg}:gN K .cl j6 (λxs H Q=>∃p ys,xs=[.ref p]/\((cT K H p ys/\∀l,H l=none->Q (.ref l) (upd H l (.tup ys)))\/(cH K H p ys/\Q (.ref p) H))):=λ{Z H x dx d Q} s h e k=>by
 cases dx<;>cases e
 .rename_i ds;rcases h with h | ⟨_,_,_,_,e,_⟩ | ⟨_,_,_,e,_⟩ | ⟨_,_,_,_,_,e,_⟩
  .obtain⟨a,vs,rfl,q,r⟩:=id h;exact⟨a,vs,rfl,.inr ⟨cK s q,k _ Z H (Ex.refl s) h⟩⟩
  .cases e
  .cases e
  .cases e
 .obtain⟨a,vs,rfl,q,r⟩:=h.lst s;refine⟨a,vs,rfl,.inl ⟨q,λp hp=>?_⟩⟩;have s1:aK Z (upd Z p (.tup vs)):=dW (s.free hp);exact k _ _ _ (Ex.new s hp) ⟨p,_,rfl,cH.of ax,ar.mono s1 _ r⟩
theorem B3(hm:X.mg "tuple"=none)(ha:PD X ga l fa)(hg:Gl X "tuple":=by rfl)(he:starEach [l] X.env=[(false,eval l X.env)]:=by rfl):PD X .cl (.Call (.Name "tuple" p) [l] [] pos) (bc j6 fa):=
 zt nC BV PyProof.Rows.boot_tuple hm ha (by decide) (by decide) hg he
def intD:D->SW
 | .int i=>some (.int i)
 | .bl b=>some (.int (if b then 1 else 0))
 | _=>none
theorem Jo{K:Fg}:gN K .cl intD (λxs H Q=>(∃i,xs=[.int i]/\Q (.int i) H)\/∃k,xs=[.bl k]/\Q (.int (if k then 1 else 0)) H):=λ{Z H x dx d Q} s h e k=>by
 cases dx<;>cases e
 .cases h.bl;exact .inr ⟨_,rfl,k _ Z H (Ex.refl s) rfl⟩
 .cases h.int;exact .inl ⟨_,rfl,k _ Z H (Ex.refl s) rfl⟩
theorem tH(hm:X.mg "int"=none)(ha:PD X ga l fa)(hg:Gl X "int":=by rfl)(he:starEach [l] X.env=[(false,eval l X.env)]:=by rfl):PD X .cl (.Call (.Name "int" p) [l] [] pos) (bc intD fa):=
 zt xg Jo PyProof.Rows.boot_int hm ha (by decide) (by decide) hg he
def vn(K:Fg)(g:Gr)(b:D->D->SW)(r:SX->Hp->VK->Prop):Prop:=cI K g b (λx y H Q=>r [x,y] H Q)
theorem uI{K:Fg}{g:Gr}{b:D->D->SW}{rr:SX->Hp->VK->Prop}(hb:vn K g b rr){σ:L2.St}{H:Hp}{Q:VK}(h:T K g (ai b fa fb) σ H Q):KA rr (vV (T K ga fa) (vV (T K gb fb) tNil)) σ H Q:=hJ hb h
variable {b2:D->D->SW}
theorem Er(hc:dq X (.builtin id) rr)(hd:vn X.K g b2 rr)(hv:bootBuiltins x=some (.builtin id))(hm:X.mg x=none)(ha:PD X ga l fa)(hb:PD X gb r fb)(hn:x≠"__name__":=by decide)(sS:(x==("__debug__":Str))=false:=by decide)(hg:Gl X x:=by rfl)
  (he:starEach [l,r] X.env=(false,eval l X.env)::starEach [r] X.env:=by rfl) (uN:starEach [r] X.env=[(false,eval r X.env)]:=by rfl) (iO:(backTo pos (starEach [r] X.env)).any (·.1)=false:=by rfl):PD X g (.Call (.Name x p) [l,r] [] pos) (ai b2 fa fb):=
 PE.imp (jj hc hg hm hv (bF ha (bF hb c6 uN) he) hn sS he iO) λ_ _ _ h=>uI hd h
abbrev maxI:=iF λi j=>.int (if j>i then j else i)
abbrev minI:=iF λi j=>.int (if j<i then j else i)
theorem I8{K:Fg}:vn K .cl maxI (λxs H Q=>∃i j,xs=[.int i,.int j]/\Q (.int (if j>i then j else i)) H):=λ{Z H x y dx dy d Q} s h1 h2 e k=>by
 cases dx<;>try cases e
 all_goals (cases dy<;>cases e)
 cases h1.int;cases h2.int;exact⟨_,_,rfl,k _ Z H (Ex.refl s) rfl⟩
theorem I9{K:Fg}:vn K .cl minI (λxs H Q=>∃i j,xs=[.int i,.int j]/\Q (.int (if j<i then j else i)) H):=λ{Z H x y dx dy d Q} s h1 h2 e k=>by
 cases dx<;>try cases e
 all_goals (cases dy<;>cases e)
 cases h1.int;cases h2.int;exact⟨_,_,rfl,k _ Z H (Ex.refl s) rfl⟩
theorem vk(hm:X.mg "max"=none)(bq:X.calm=true)(ha:PD X ga l fa)(hb:PD X gb r fb)(hg:Gl X "max":=by rfl)(he:starEach [l,r] X.env=(false,eval l X.env)::starEach [r] X.env:=by rfl)(uN:starEach [r] X.env=[(false,eval r X.env)]:=by rfl)(iO:(backTo pos (starEach [r] X.env)).any (·.1)=false:=by rfl) :
  PD X .cl (.Call (.Name "max" p) [l,r] [] pos) (ai maxI fa fb):=Er (xR bq) I8 PyProof.Rows.boot_max hm ha hb (by decide) (by decide) hg he uN iO
theorem Ir(hm:X.mg "min"=none)(bq:X.calm=true)(ha:PD X ga l fa)(hb:PD X gb r fb)(hg:Gl X "min":=by rfl)(he:starEach [l,r] X.env=(false,eval l X.env)::starEach [r] X.env:=by rfl)(uN:starEach [r] X.env=[(false,eval r X.env)]:=by rfl)(iO:(backTo pos (starEach [r] X.env)).any (·.1)=false:=by rfl) :
  PD X .cl (.Call (.Name "min" p) [l,r] [] pos) (ai minI fa fb):=Er (xD bq) I9 PyProof.Rows.boot_min hm ha hb (by decide) (by decide) hg he uN iO
def Be(K:Fg)(n:Nat)(g:Gr)(m:SV->SW):Sp:=λvs H Q _=>∃Z ds d,ds.length=n/\aK Z H/\ar K Z ds vs/\m ds=some d/\∀v Z' H',Ex Z H Z' H'->Gd K Z' H H' g d v->Q v H'
structure Ka(P:Program)(w:World)(K:Fg)(mg:Str->Option Value)(base:Heap)(k:Nat)(x:Str)(n:Nat)(g:Gr)(m:List D->Option D):Prop where
 ex:∃f fd ps,ps.length=n/\ir P w K mg base sH k f fd ps (Be K n g m)/\mg x=some (.ref f)/\PySem.W.keepIn K (.ref f)=true/\Binds K fd ps []
variable {m:SV->SW}{k n:Nat}{es:Sw}{fs:Fes}
theorem fW(C:Ka X.prog X.w X.K X.mg X.base k x n g m)(hr:b8 k X.A)(hl:PL X (l::es) fs)(hn:(l::es).length=n:=by rfl)(hg:Gl X x:=by rfl)(sS:(x==("__debug__":Str))=false:=by decide)
  (he:starEach (l::es) X.env=(false,eval l X.env)::starEach es X.env:=by rfl) (iO:(backTo pos (starEach es X.env)).any (·.1)=false:=by rfl):PD X g (.Call (.Name x p) (l::es) [] pos) (λenv=>(fs env).bind m):=by
 obtain⟨f,fd,ps,hps,F,hm,hk,hb⟩:=C.ex;refine PE.imp (Ds F hr hg hm hk hb .nil IZ hl.p sS he iO) λσ H Q aG=>?_;refine cN λ_ kq=>?_;obtain⟨env,B,Z,d,R,e,kk⟩:=aG;obtain⟨ds,h1,h2⟩:=b_.mp e;refine kq (⟨env,B,Z,ds,R,h1,λvs Z1 H1 x1 r=>?_⟩)
 all_goals clear kq
 show Be X.K n g m (vs++[]) H1 Q E0;rw[O9];exact⟨Z1,ds,d,by rw[hl.l env ds h1];exact hn,x1.zh,r,h2,λv Z' H' x2 g2=>kk v Z' H' (x1.trans x2) (g2.frm x1.h)⟩
end
inductive Out where
 | nx (env:En) | rt (d:D) | bk (env:En) | ct (env:En)
abbrev Fs:=En->Option Out
def wb(K:Fg)(rg:Gr)(B Z:Hp)(E:Ends):Out->Prop
 | .nx env'=>∀σ' Z' H',Ex Z B Z' H'->Rl K B Z' H' env' σ'->E.nx σ' H'
 | .bk env'=>∀σ' Z' H',Ex Z B Z' H'->Rl K B Z' H' env' σ'->E.bk σ' H'
 | .ct env'=>∀σ' Z' H',Ex Z B Z' H'->Rl K B Z' H' env' σ'->E.ct σ' H'
 | .rt d=>∀v Z' H',Ex Z B Z' H'->Gd K Z' B H' rg d v->E.rt v H'
def I0(K:Fg)(rg:Gr)(f:Fs):TS:=λE σ H=>∃env B Z o,Rl K B Z H env σ/\f env=some o/\wb K rg B Z E o
def SD(X:Cx)(rg:Gr)(st:SO)(f:Fs):Prop:=PS X st (I0 X.K rg f)
def tJ(X:Cx)(rg:Gr)(st:Sx)(f:Fs):Prop:=nJ X st (I0 X.K rg f)
section
variable {X:Cx}{rg:Gr}{st:SO}{HI:Sx}{f g:Fs}{pos:Pos}
theorem PS.imp(h:PS X st t)(i:∀E σ H,t' E σ H->t E σ H):PS X st t':=λpins s σ H E I q=>h pins s σ H E I (i E σ H q)
theorem nJ.imp(h:nJ X HI t)(i:∀E σ H,t' E σ H->t E σ H):nJ X HI t':=λpins s σ H E I q=>h pins s σ H E I (i E σ H q)
theorem wb.later{K:Fg}{B Z Z1 H1:Hp}{E:Ends}{o:Out}(x:Ex Z B Z1 H1)(h:wb K rg B Z E o):wb K rg B Z1 E o:=by
 cases o with
 | nx e=>exact λσ' Z' H' y=>h σ' Z' H' (x.transB y)
 | bk e=>exact λσ' Z' H' y=>h σ' Z' H' (x.transB y)
 | ct e=>exact λσ' Z' H' y=>h σ' Z' H' (x.transB y)
 | rt e=>exact λv Z' H' y=>h v Z' H' (x.transB y)
def nxF:Fs:=λenv=>some (.nx env)
def aD(f g:Fs):Fs:=λenv=>(f env).bind λo=>match o with | .nx e=>g e | o=>some o
theorem bT:tJ X rg [] nxF:=nJ.imp B0 λE σ H ⟨env,B,Z,o,R,e,k⟩=>by cases e;exact k σ Z H ⟨R.bh,aK.refl _,R.zh,λ_ _ h=>h,λ_ _ _ h=>h⟩ R
theorem aq(h1:SD X rg st f)(h2:tJ X rg HI g):tJ X rg (st::HI) (aD f g):=nJ.imp (Aw h1 h2) λE σ H aG=>by
 refine cN λ_ kq=>?_;obtain⟨env,B,Z,o,R,e,k⟩:=aG;obtain⟨o1,e1,e2⟩:=b_.mp e;refine kq (⟨env,B,Z,o1,R,e1,?_⟩)
 all_goals clear kq
 cases o1 with
 | nx env1=>exact λσ' Z' H' x R'=>⟨env1,B,Z',o,R',e2,k.later x⟩
 | rt d=>cases e2;exact k
 | bk d=>cases e2;exact k
 | ct d=>cases e2;exact k
theorem aB(h1:SD X rg st f):tJ X rg [st] f:=B5 h1
def si(i:Nat):Fs:=λenv=>match env[i]? with
 | some (.O w)=>some (.nx (env.set i (.F w.d)))
 | some (.F d)=>some (.nx env)
 | _=>none
theorem vP(i:Nat)(h:tJ X rg HI g):tJ X rg HI (aD (si i) g):=nJ.imp h λE σ H aG=>by
 obtain⟨env,B,Z,o,R,e,k⟩:=aG;obtain⟨o1,e1,e2⟩:=b_.mp e;unfold si at e1
 split at e1
 .rename_i ds hi;cases e1;obtain⟨Z',R',x⟩:=R.frz hi;exact⟨_,B,Z',o,R',e2,k.later x⟩
 .cases e1;exact⟨env,B,Z,o,R,e2,k⟩
 .cases e1
def bt(f:Fe):Fs:=λenv=>(f env).bind λd=>some (.rt d)
theorem a9{e:SN}{f:Fe}(h:PD X rg e f):SD X rg (.Return (some e) pos) (bt f):=PS.imp (uw h) λE σ H aG=>by
 refine cN λ_ kq=>?_;obtain⟨env,B,Z,o,R,e,k⟩:=aG;obtain⟨d,e1,e2⟩:=b_.mp e;cases e2;exact kq (⟨env,B,Z,d,R,e1,λv Z' H' x g=>k v Z' H' (x.part R.bh) (g.frm R.bh)⟩)
def tL(i:Nat):Fs:=λenv=>match env[i]? with
 | some (.O (.L ds))=>some (.rt (.lst ds))
 | _=>none
theorem lz(i:Nat)(hN:X.N[i]?=some x:=by rfl)(hv:wX X.env.scope x:=by first | exact Or.inl rfl | exact Or.inr (Or.inl rfl) | exact Or.inr (Or.inr rfl))(hd:(x==("__debug__":Str))=false:=by decide)
  (iP:(x==("__classdict__":Str))=false:=by decide):SD X .nw (.Return (some (.Name x p)) pos) (tL i):=PS.imp (uw (eO hN hv hd iP)) λE σ H aG=>by
 obtain⟨env,B,Z,o,R,e,k⟩:=aG;unfold tL at e
 split at e
 .rename_i ds hi;cases e;obtain⟨y,e1,a,o,e2,e3,e4,vs,rfl,r⟩:=R.sl i _ hi;subst e2;exact⟨_,e1,k _ Z H ⟨R.bh,aK.refl _,R.zh,λ_ _ h=>h,λ_ _ _ h=>h⟩ ⟨a,vs,ds,rfl,rfl,R.ob i _ a hi e1,e3,e4,r⟩⟩
 .cases e
def gu(t:Fb)(f g:Fs):Fs:=λenv=>(t env).bind λb=>if b=true then f env else g env
theorem dC(hc:PB X c t)(ha:tJ X rg a f)(hb:tJ X rg b g):SD X rg (.If c a b pos) (gu t f g):=PS.imp (JH hc ha hb) λE σ H aG=>by
 refine cN λ_ kq=>?_;obtain⟨env,B,Z,o,R,e,k⟩:=aG;obtain⟨x,e1,e2⟩:=b_.mp e;refine kq (⟨env,B,Z,x,R,e1,λZ1 H1 x1=>?_⟩)
 all_goals clear kq
 cases x with
 | true=>rw[k_ rfl]at e2;exact xk ⟨env,B,Z1,o,R.ext x1,e2,k.later (x1.part R.bh)⟩
 | false=>rw[l_ (by simp)]at e2;exact wL ⟨env,B,Z1,o,R.ext x1,e2,k.later (x1.part R.bh)⟩
def setF(i:Nat)(f:Fe):Fs:=λenv=>(f env).bind λd=>some (.nx (env.set i (.F d)))
def setO(i:Nat)(f:Fe):Fs:=λenv=>(f env).bind λd=>match d with | .lst ds=>some (.nx (env.set i (.O (.L ds)))) | _=>none
theorem yU{f:Fe}{i:Nat}{E:Ends}{σ:L2.St}{H:Hp}(h:I0 X.K rg (setF i f) E σ H):zm (T X.K .cl f) (rG i) E σ H:=by
 refine cN λ_ kq=>?_;obtain⟨env,B,Z,o,R,e,k⟩:=h;obtain⟨d,e1,e2⟩:=b_.mp e;cases e2;exact kq (⟨env,B,Z,d,R,e1,λv Z' H' x g=>k _ Z' H' (x.part R.bh) ((R.ext x).setF i g)⟩)
theorem wV{f:Fe}{i:Nat}{E:Ends}{σ:L2.St}{H:Hp}(h:I0 X.K rg (setO i f) E σ H):zm (T X.K .nw f) (rG i) E σ H:=by
 refine cN λ_ kq=>?_;obtain⟨env,B,Z,o,R,e,k⟩:=h;obtain⟨d,e1,e2⟩:=b_.mp e;cases d<;>cases e2;rename_i ds;refine kq (⟨env,B,Z,_,R,e1,λv Z' H' x g=>?_⟩)
 all_goals clear kq
 obtain⟨a,vs,J8,rfl,e3,h1,h2,h3,r⟩:=g;cases e3;refine k _ Z' H' (x.part R.bh) ((R.ext x).setO i (R.bh.free h1) h3 h2 ⟨vs,rfl,r⟩ λj es hj hje hja=>?_);obtain⟨y,e4,b,us,e5,e6,_⟩:=R.sl j _ hje;rw[hja]at e4;cases e4;cases e5;rw[h1]at e6;cases e6
section
variable {x:Str}{e:SN}{fe:Fe}{pos':Pos}
theorem a8(i:Nat)(he:PD X .cl e fe)(hN:X.N.Nodup)(hi:X.N[i]?=some x:=by rfl)(hx:Loc X.env.scope x:=by first | exact Or.inl rfl | exact Or.inr rfl)(hs:swapsWith e (some (.Name x pos')) pos.line X.env=pure false:=by rfl)
  (hf:X.fn x=true\/X.env.scope.names.lookup x=some .local:=by first | exact .inl rfl | exact .inr rfl | assumption):SD X rg (.Assign [.Name x pos'] e pos) (setF i fe):=PS.imp (qj hN hi hx he hs hf) λE σ H h=>yU h
theorem fY(i:Nat)(he:PD X .nw e fe)(hN:X.N.Nodup)(hi:X.N[i]?=some x:=by rfl)(hx:Loc X.env.scope x:=by first | exact Or.inl rfl | exact Or.inr rfl)(hs:swapsWith e (some (.Name x pos')) pos.line X.env=pure false:=by rfl)
  (hf:X.fn x=true\/X.env.scope.names.lookup x=some .local:=by first | exact .inl rfl | exact .inr rfl | assumption):SD X rg (.Assign [.Name x pos'] e pos) (setO i fe):=PS.imp (qj hN hi hx he hs hf) λE σ H h=>wV h
end
def gE(i:Nat)(f:Fe):Fs:=λenv=>match env[i]? with
 | some (.O (.L ds))=>(f env).bind λd=>if ds.length<16000000 then some (.nx (env.set i (.O (.L (ds++[d])))))else none
 | _=>none
theorem mm(i:Nat)(he:PD X .cl e fe)(hN:X.N[i]?=some x:=by rfl)(hv:wX X.env.scope x:=by first | exact Or.inl rfl | exact Or.inr (Or.inl rfl) | exact Or.inr (Or.inr rfl))
  (hd:(x==("__debug__":Str))=false:=by decide) (iP:(x==("__classdict__":Str))=false:=by decide) (hst:starEach [e] X.env=[(false,eval e X.env)]:=by rfl)
  (gY:attributeBase (.Name x px) "append" X.env (eval (.Name x px) X.env)=eval (.Name x px) X.env:=by rfl)
  (uR:((backTo bK (starEach [e] X.env)).all (λx=>!x.1)&&(backToKw bK (keywordEach [] X.env)).all (λx=>x.1.isSome)
   && decide (([e]:Sw).length+([]:List Keyword).length+(if([]:List Keyword).isEmpty then 0 else 1)<30))=true:=by rfl)
  (gZ:(apos.endLine==bK.line)=true:=by rfl)
  (hs:swapsWith (.Call (.Attribute (.Name x px) "append" apos) [e] [] bK) none pos.line X.env=pure false:=by rfl) :
  SD X rg (.Expr (.Call (.Attribute (.Name x px) "append" apos) [e] [] bK) pos) (gE i fe):=by
 refine PS.imp (lg (AF QO PySem.F.slot_list_append PySem.F.type_list_append nX (eO hN hv hd iP) (bF he c6 hst) gY uR gZ hst rfl) hs) λE σ H aG=>?_;obtain⟨env,B,Z,o,R,e,k⟩:=aG;unfold gE at e
 split at e
 .rename_i ds hi;obtain⟨d,e1,e2⟩:=b_.mp e;obtain⟨hl,rfl⟩:=ma e2
  .obtain⟨y,e3,a,o,e4,e5,e6,vs,rfl,r⟩:=R.sl i _ hi;subst e4;refine⟨_,e3,.inl ⟨rfl,vs,cT.of e5⟩,env,B,Z,d,R,e1,λv Z1 H1 x1 g1=>?_⟩;have R1:=R.ext x1;have r1:=ar.mono x1.z ds r;have ha:=x1.h _ _ e5;refine⟨a,vs,v,rfl,rfl,ha,by rw[<- r.len,OJ];lia,?_⟩;obtain⟨R2,x2⟩:=R1.wr hi e3 (cw.l (r1.app (ar.one g1)));exact k σ Z1 _ ((x1.part R.bh).transB x2) R2
 .cases e
def vz(i:Nat)(fk fe:Fe):Fs:=λenv=>(fe env).bind λd=>match env[i]? with
 | some (.O (.L ds))=>(fk env).bind λkd=>match kd with
  | .int j=>(vU ds.length j).bind λn=>some (.nx (env.set i (.O (.L (ds.set n d)))))
  | _=>none
 | _=>none
theorem CC(i:Nat)(he:PD X .cl e fe)(hk:PD X gk ke fk)(hN:X.N[i]?=some x:=by rfl)(hv:wX X.env.scope x:=by first | exact Or.inl rfl | exact Or.inr (Or.inl rfl) | exact Or.inr (Or.inr rfl))
  (hd:(x==("__debug__":Str))=false:=by decide) (iP:(x==("__classdict__":Str))=false:=by decide)
  (ha:∀v,assign (.Subscript (.Name x px) ke p2) X.env v=(do
   let ov <- holding [v] (eval (.Name x px) X.env)
   let iv <- holding [v,ov] (eval ke X.env)
   standAt p2
   holding [v,ov,iv] (setItem ov iv v)
   release [v,ov,iv] []):=by intro _;rfl)
  (hs:swapsWithSole [.Subscript (.Name x px) ke p2] e pos.line X.env=pure false:=by rfl) (hw:swappedStores [.Subscript (.Name x px) ke p2] e X.env=pure none:=by rfl)
  (h1:(assignEach [.Subscript (.Name x px) ke p2] X.env).map (·.2)=[assign (.Subscript (.Name x px) ke p2) X.env]:=by rfl) :
  SD X rg (.Assign [.Subscript (.Name x px) ke p2] e pos) (vz i fk fe):=by
 refine PS.imp (ug he (FA (eO hN hv hd iP) hk set_list ha) hs hw h1) λE σ H aG=>?_;refine cN λ_ kq=>?_;obtain⟨env,B,Z,o,R,e,k⟩:=aG;obtain⟨d,e1,e⟩:=b_.mp e;refine kq (⟨env,B,Z,d,R,e1,λv Z1 H1 x1 g1=>?_⟩)
 all_goals clear kq
 split at e
 .rename_i ds hi;refine cN λ_ kq=>?_;obtain⟨kd,e2,e⟩:=b_.mp e;cases kd<;>try cases e
  rename_i j;obtain⟨n,e3,e⟩:=b_.mp e;cases e;have R1:=R.ext x1;obtain⟨y,e4,a,o,e5,e6,e7,vs,rfl,r⟩:=R1.sl i _ hi;subst e5;refine kq (⟨_,e4,env,B,Z1,_,R1,e2,λkv Z2 H2 x2 g2=>?_⟩)
  all_goals clear kq
  have R2:=R1.ext x2;refine⟨a,vs,j,n,rfl,g2.int,x2.h _ _ e6,by rw[<- r.len];exact e3,?_⟩;obtain⟨R3,x3⟩:=R2.wr hi e4 (cw.l ((ar.mono x2.z ds r).set (Rep.mono x2.z d g1) n));exact k σ Z2 _ (((x1.trans x2).part R.bh).transB x3) R3
 .cases e
end
abbrev Ft:=D->En->Option En
def Oh(K:Fg)(t:Ft):TG:=λv σ H Q=>∃env B Z d env',Rl K B Z H env σ/\Rep K Z d v/\t d env=some env'/\∀σ' Z' H',Ex Z H Z' H'->Rl K B Z' H' env' σ'->Q σ' H'
def GD(X:Cx)(tg:SN)(t:Ft):Prop:=PG X tg (Oh X.K t)
section
variable {X:Cx}{rg:Gr}
theorem PG.imp(h:PG X e t)(i:∀v σ H Q,t' v σ H Q->t v σ H Q):PG X e t':=λpins s σ H v u Q I r q=>h pins s σ H v u Q I r (i v σ H Q q)
def bZ(i:Nat):Ft:=λd env=>some (env.set i (.F d))
theorem aZ(i:Nat)(hN:X.N.Nodup)(hi:X.N[i]?=some x:=by rfl)(hx:Loc X.env.scope x:=by first | exact Or.inl rfl | exact Or.inr rfl)
  (hf:X.fn x=true\/X.env.scope.names.lookup x=some .local:=by first | exact .inl rfl | exact .inr rfl | assumption):GD X (.Name x pos) (bZ i):=PG.imp (jC hN hi hx hf) λv σ H Q aG=>by
 obtain⟨env,B,Z,d,env',R,r,e,k⟩:=aG;cases e;exact k _ Z H (Ex.refl R.zh) (R.setF i r)
def ek:Sy->SV->En->Option En
 | [],[],env=>some env
 | i::is,d::ds,env=>ek is ds (env.set i (.F d))
 | _,_,_=>none
def Mb(K:Fg)(is:Sy):TGs:=λvs σ H Q=>∃env B Z ds env',Rl K B Z H env σ/\ar K Z ds vs/\ek is ds env=some env'/\∀σ',Rl K B Z H env' σ'->Q σ' H
def GR(X:Cx)(Kb:Sw)(is:Sy):Prop:=wz X Kb (Mb X.K is)
theorem wz.imp(h:wz X e t)(i:∀v σ H Q,t' v σ H Q->t v σ H Q):wz X e t':=λpins s σ H v u Q I r q=>h pins s σ H v u Q I r (i v σ H Q q)
theorem cq:GR X [] []:=wz.imp BL λv σ H Q aG=>by
 obtain⟨env,B,Z,ds,env',R,r,e,k⟩:=aG;cases ds with
 | nil=>cases e;exact⟨r,k _ R⟩
 | cons d ds=>cases e
theorem aA(i:Nat)(hN:X.N.Nodup)(h:GR X Kb is)(hi:X.N[i]?=some x:=by rfl)(hx:Loc X.env.scope x:=by first | exact Or.inl rfl | exact Or.inr rfl)
  (hf:X.fn x=true\/X.env.scope.names.lookup x=some .local:=by first | exact .inl rfl | exact .inr rfl | assumption)
  (hs:(assignEach (.Name x pos::Kb) X.env).map (·.2)=assign (.Name x pos) X.env::(assignEach Kb X.env).map (·.2):=by rfl):GR X (.Name x pos::Kb) (i::is):=wz.imp (lX (jC hN hi hx hf) h hs) λv σ H Q aG=>by
 obtain⟨env,B,Z,ds,env',R,r,e,k⟩:=aG;cases ds with
 | nil=>cases e
 | cons d ds=>
  obtain⟨w,rr,e1,r1,r2⟩:=r;exact⟨w,rr,e1,env.set i (.F d),B,Z,ds,env',R.setF i r1,r2,e,k⟩
def md(is:Sy):Ft:=λd env=>match d with
 | .tup ds=>ek is ds env
 | _=>none
theorem ja:∀{is:Sy}{ds:SV}{env env':En},ek is ds env=some env'->ds.length=is.length
 | [],[],_,_,_=>rfl
 | i::is,d::ds,_,_,h=>by simp[ja (ds:=ds) h]
 | [],_::_,_,_,h=>by cases h
 | _::_,[],_,_,h=>by cases h
theorem iA(hc:X.calm=true)(h:GR X es is)(hn:(assignEach es X.env).length=is.length:=by rfl)(hst:(assignEach es X.env).findIdx? (·.1)=none:=by rfl):GD X (.Tuple es k pos) (md is):=
 PG.imp (Fh hc h hn hst) λv σ H Q aG=>by
  refine cN λ_ kq=>?_;obtain⟨env,B,Z,d,env',R,r,e,k⟩:=aG;cases d<;>try cases e
  rename_i ds;obtain⟨a,vs,e1,hq,rr⟩:=r;exact kq (⟨a,vs,e1,cK R.zh hq,by rw[<- rr.len];exact ja e,env,B,Z,ds,env',R,rr,e,λσ'=>k σ' Z H (Ex.refl R.zh)⟩)
def dH(t:Ft)(body:Fs):SV->Fs
 | [],env=>some (.nx env)
 | d::ds,env=>(t d env).bind λe1=>(body e1).bind λo=>match o with
  | .nx e2=>dH t body ds e2
  | .ct e2=>dH t body ds e2
  | .bk e2=>some (.nx e2)
  | .rt d=>some (.rt d)
abbrev Fi:=En->SU
def Walk(K:Fg)(Z1:Hp)(ds:SV)(J:It):Prop:=∀(Z' H':Hp),aK Z1 Z'->aK Z' H'->∀i,
 (i<ds.length->J.go i H'/\∀x H'',J.yld i H' x H''->∃Z'' d,Ex Z' H' Z'' H''/\ds[i]?=some d/\Rep K Z'' d x)/\(ds.length<=i->J.stop i H')
def Of(K:Fg)(f:Fi):TI:=λσ H R=>∃env B Z ds,Rl K B Z H env σ/\f env=some ds/\∀J Z1 H1,Ex Z H Z1 H1->Walk K Z1 ds J->R J H1
def ID(X:Cx)(tg iter:SN)(f:Fi):Prop:=PI X tg iter (Of X.K f)
theorem PI.imp(h:PI X tg e t)(i:∀σ H R,t' σ H R->t σ H R):PI X tg e t':=λpins s σ H R I q=>h pins s σ H R I (i σ H R q)
def ie(f:Fe):Fi:=λenv=>(f env).bind λd=>match d with | .lst ds=>some ds | _=>none
def Iq(f:Fe):Fi:=λenv=>(f env).bind λd=>match d with | .tup ds=>some ds | _=>none
theorem xC{K:Fg}{Z1:Hp}{a:SM}{vs:SX}{ds:SV}(q:cT K Z1 a vs)(rr:ar K Z1 ds vs):Walk K Z1 ds (LU K a):=λZ' H' s1 s2 i=>by
 have q':=(s1.trans s2).seq q;refine⟨λhi=>⟨⟨vs,vs[i]'(by rw[<- rr.len];exact hi),q',by simp[<- rr.len,hi]⟩,λx H'' y=>?_⟩,λhi=>⟨vs,q',by rw[<- rr.len];exact hi⟩⟩;refine cN λ_ kq=>?_;obtain⟨e,y⟩:=y;obtain⟨d,h1,h2⟩:=rr.getV (y vs q');subst e;exact kq (⟨Z',d,Ex.refl s2,h1,Rep.mono s1 d h2⟩)
theorem AH{K:Fg}{Z1:Hp}{a:SM}{vs:SX}{ds:SV}(q:cH K Z1 a vs)(rr:ar K Z1 ds vs):Walk K Z1 ds (LP K a):=λZ' H' s1 s2 i=>by
 have q':=cK (s1.trans s2) q;refine⟨λhi=>⟨⟨vs,vs[i]'(by rw[<- rr.len];exact hi),q',by simp[<- rr.len,hi]⟩,λx H'' y=>?_⟩,λhi=>⟨vs,q',by rw[<- rr.len];exact hi⟩⟩;refine cN λ_ kq=>?_;obtain⟨e,y⟩:=y;obtain⟨d,h1,h2⟩:=rr.getV (y vs q');subst e;exact kq (⟨Z',d,Ex.refl s2,h1,Rep.mono s1 d h2⟩)
theorem bC(h:PD X .cl l f):ID X tg l (ie f):=PI.imp (Bz h) λσ H R aG=>by
 refine cN λ_ kq=>?_;obtain⟨env,B,Z,ds,Rr,e,k⟩:=aG;obtain⟨d,e1,e2⟩:=b_.mp e;cases d<;>cases e2;refine kq (⟨env,B,Z,_,Rr,e1,λv Z1 H1 x1 g1=>?_⟩)
 all_goals clear kq
 obtain⟨a,vs,e,q,r⟩:=g1;exact⟨a,e,⟨vs,x1.zh.seq q⟩,k _ Z1 H1 x1 (xC q r)⟩
theorem DR(h:PD X .cl l f):ID X tg l (Iq f):=PI.imp (Fy h) λσ H R aG=>by
 refine cN λ_ kq=>?_;obtain⟨env,B,Z,ds,Rr,e,k⟩:=aG;obtain⟨d,e1,e2⟩:=b_.mp e;cases d<;>cases e2;refine kq (⟨env,B,Z,_,Rr,e1,λv Z1 H1 x1 g1=>?_⟩)
 all_goals clear kq
 obtain⟨a,vs,e,q,r⟩:=g1;exact⟨a,e,⟨vs,cK x1.zh q⟩,k _ Z1 H1 x1 (AH q r)⟩
def aI(lo:Int)(n:Nat):SV:=(List.range n).map λi=>.int (lo+(i:Nat))
theorem yN{K:Fg}{Z1:Hp}(lo:Int)(n:Nat):Walk K Z1 (aI lo n) (Kx lo n):=λZ' H' s1 s2 i=>by
 have hl:(aI lo n).length=n:=by simp[aI]
 rw[hl];refine⟨λhi=>⟨hi,λx H'' y=>?_⟩,λh=>h⟩;obtain⟨e,y⟩:=y;subst e;subst y;exact⟨Z',.int (lo+i),Ex.refl s2,by simp[aI,hi],rfl⟩
def z9(j:Int):Bool:=decide (-4000000000000000000<j/\j<4000000000000000000)
def dM(f:Fe):Fi:=λenv=>(f env).bind λd=>match d with
 | .int j=>if z9 j then some (aI 0 j.toNat)else none
 | _=>none
theorem bI(hm:X.mg "range"=none)(h:PD X ga l f)(hg:Gl X "range":=by rfl)(hs:starEach [l] X.env=[(false,eval l X.env)]:=by rfl):ID X tg (.Call (.Name "range" p) [l] [] pos) (dM f):=
 PI.imp (wU hg hm (bF h c6 hs) hs) λσ H R aG=>by
  obtain⟨env,B,Z,ds,Rr,e,k⟩:=aG;obtain⟨d,e1,e2⟩:=b_.mp e;cases d<;>try cases e2
  rename_i j;obtain⟨hj,rfl⟩:=ma e2
  .have hj':=OD hj;refine⟨env,B,Z,_,Rr,e1,λv Z1 H1 x1 g1=>⟨j,by rw[g1.int],by omega,by omega,k _ Z1 H1 x1 (yN 0 j.toNat)⟩⟩
def dD(fi:Fi)(t:Ft)(body:Fs):Fs:=λenv=>(fi env).bind λds=>dH t body ds env
theorem cQ(hp:PassesOwn (model X.prog X.w) X.A X.env X.xe)(hc:X.calm=true)(hi:ID X tg iter fi)(hg:GD X tg t)(hb:tJ X rg body fb)
  (hs:∀x,foldedSetIterable iter X.env x=pure x:=by intro _;rfl):SD X rg (.For tg iter body [] pos) (dD fi t fb):=PS.imp (EO hp hc hi hg hb hs) λE σ H aG=>by
 refine cN λ_ kq=>?_;obtain⟨env,B,Z,o,R,e,k⟩:=aG;obtain⟨ds,e1,e2⟩:=b_.mp e;refine kq (⟨env,B,Z,ds,R,e1,λJ Z1 H1 x1 wk=>?_⟩)
 all_goals clear kq
 let In:Nat->L2.St->Hp->Prop:=λi σ H=>∃env' Z',Ex Z B Z' H/\aK Z1 Z'/\Rl X.K B Z' H env' σ/\dH t fb (ds.drop i) env'=some o
 refine⟨λi m σ H=>m=ds.length-i/\i<=ds.length/\In i σ H,⟨ds.length,by simp,Py _,env,Z1,x1.part R.bh,aK.refl _,R.ext x1,by simpa using e2⟩,?_⟩;rintro i m σ2 H2 ⟨rfl,hi,env',Z',x2,s2,R2,e3⟩;obtain⟨w1,w2⟩:=wk Z' H2 s2 R2.zh i
 by_cases hlt:i<ds.length
 .obtain⟨go,yl⟩:=w1 hlt;refine .inr ⟨go,In (i+1),λσ' H' n=>⟨ds.length-(i+1),by omega,rfl,hlt,n⟩,λx H3 y=>?_⟩;refine cN λ_ kq=>?_;obtain⟨Z3,d,x3,hd,r3⟩:=yl x H3 y;have Mr:ds.drop i=d::ds.drop (i+1):=by
   obtain⟨h1,h2⟩:=o_.mp hd;rw[PR h1,h2]
  rw[Mr]at e3;unfold dH at e3;obtain⟨NC,e4,e5⟩:=b_.mp e3;obtain⟨o1,e6,e7⟩:=b_.mp e5;have R3:=R2.ext x3;refine kq (⟨env',B,Z3,d,NC,R3,r3,e4,λσ4 Z4 H4 y4 R4=>⟨NC,B,Z4,o1,R4,e6,?_⟩⟩)
  all_goals clear kq
  have x4:=x2.transB ((x3.trans y4).part R2.bh);have s4:=(s2.trans x3.z).trans y4.z;cases o1 with
  | nx KU=>exact λσ5 Z5 H5 x5 R5=>⟨KU,Z5,x4.transB x5,s4.trans x5.z,R5,e7⟩
  | ct KU=>exact λσ5 Z5 H5 x5 R5=>⟨KU,Z5,x4.transB x5,s4.trans x5.z,R5,e7⟩
  | bk KU=>cases e7;exact λσ5 Z5 H5 x5 R5=>k σ5 Z5 H5 (x4.transB x5) R5
  | rt d=>cases e7;exact λv Z5 H5 x5 g5=>k v Z5 H5 (x4.transB x5) g5
 .refine .inl ⟨w2 (by omega),?_⟩;rw[List.drop_eq_nil_of_le (by omega)]at e3;cases e3;exact k σ2 Z' H2 x2 R2
def BY(is:Sy)(f:Fe):Fs:=λenv=>(f env).bind λd=>(md is d env).bind λe=>some (.nx e)
theorem AG(hc:X.calm=true)(he:PD X .cl e fe)(h:GR X es is)(hn:(assignEach es X.env).length=is.length:=by rfl)(hst:(assignEach es X.env).findIdx? (·.1)=none:=by rfl)
  (hs:swapsWithSole [.Tuple es k p2] e pos.line X.env=pure false:=by rfl) (hw:swappedStores [.Tuple es k p2] e X.env=pure none:=by rfl) (h1:(assignEach [.Tuple es k p2] X.env).map (·.2)=[assign (.Tuple es k p2) X.env]:=by rfl) :
  SD X rg (.Assign [.Tuple es k p2] e pos) (BY is fe):=PS.imp (ug he (iA hc h hn hst) hs hw h1) λE σ H aG=>by
 refine cN λ_ kq=>?_;obtain⟨env,B,Z,o,R,e,k⟩:=aG;obtain⟨d,e1,e⟩:=b_.mp e;obtain⟨en,e2,e⟩:=b_.mp e;cases e;refine kq (⟨env,B,Z,d,R,e1,λv Z1 H1 x1 g1=>⟨env,B,Z1,d,en,R.ext x1,g1,e2,λσ' Z2 H2 x2 R'=>k σ' Z2 H2 ((x1.trans x2).part R.bh) R'⟩⟩)
def aT(n:Nat)(ds:SV):En:=ds.map .F++List.replicate (n-ds.length) .un
def bM(f:Fs)(n:Nat)(ds:SV):SW:=(f (aT n ds)).bind λo=>match o with | .rt d=>some d | _=>none
theorem Rl.start{K:Fg}{Z H:Hp}{N:Su}{ds:SV}{vs:SX}(s:aK Z H)(r:ar K Z ds vs):Rl K H Z H (aT N.length ds) (start N vs):=by
 have hl:=r.len;have noO:∀(i:Nat)(es:qE),(aT N.length ds)[i]?≠some (.O es):=λi es h=>by
  unfold aT at h
  by_cases hi:i<ds.length
  .rw[N_ (by simpa using hi),m_]at h;cases q:ds[i]? with
   | none=>rw[q]at h;cases h
   | some d=>rw[q]at h;cases h
  .rw[J_ (by simpa using hi),OO]at h
   split at h<;>cases h
 refine⟨aK.refl _,s,by simp[aT,L2.start,hl],λi sl h=>?_,λi es a h=>absurd h (noO i es),λi j es _ a _ h=>absurd h (noO i es)⟩;unfold aT at h;unfold L2.start
 by_cases hi:i<ds.length
 .rw[N_ (by simpa using hi),m_]at h;cases q:ds[i]? with
  | none=>rw[q]at h;cases h
  | some d=>
   rw[q]at h;cases h;obtain⟨v,h1,h2⟩:=r.get q;exact⟨some v,by rw[N_ (by simpa [<- hl]using hi),m_,h1];rfl,v,rfl,h2⟩
 .rw[J_ (by simpa using hi),OO]at h
  split at h
  .rename_i hk;cases h;refine⟨none,?_,trivial⟩;rw[J_ (by simpa [<- hl]using hi),OO,k_ (by simpa [hl]using hk)]
  .cases h
end
section
variable {P:SF}{w:SI}{K:Fg}{mg:Sm}{base:SH}
theorem Nt{x qual:Str}{st:SO}{f:SM}{fd:SJ}{N ps:Su}{k:Nat}{g:Gr}{m:SV->SW}{fb:Fs}(F:A2 K x qual st f fd)(S:eG N ps (aM st))
  (hb:∀(dU:SC)(A:SG)(outer:List Env)(s:SE)(H:Hp)(E:XK),b8 k (A.deeper (envOfC qual (aM st) s.sz f dU))->tJ (lq sH P w K mg base N qual (aM st) f dU A outer s H E).nox g (bV st) fb)
  (hm:∀ds d,ds.length=ps.length->m ds=some d->bM fb N.length ds=some d):ir P w K mg base sH (k+1) f fd ps (Be K ps.length g m):=by
 refine F.ok S (λvs H Q E ⟨Z,ds,d,hl,_,r,_⟩=>by rw[<- r.len];exact hl) λdU A outer s H vs Q E hr aG=>?_;obtain⟨Z,ds,d,hl,s1,r,e,kk⟩:=aG;refine⟨_,hb dU A outer s H E hr,?_⟩;obtain⟨o,e1,e2⟩:=b_.mp (hm ds d hl e);refine⟨_,H,Z,o,Rl.start s1 r,e1,?_⟩;cases o with
 | rt d'=>cases e2;exact kk
 | nx _=>cases e2
 | bk _=>cases e2
 | ct _=>cases e2
end
mutual
def toPy:D->PyData
 | .non=>.none
 | .bl b=>.bool b
 | .int i=>.int i
 | .str x=>.str x
 | .tup ds=>.tuple (dr ds)
 | .lst ds=>.list (dr ds)
 | .dct _=>.none
 | .st _=>.none
 | .ln _=>.none
 | .mp _ _ _=>.none
 | .ix _ _ _=>.none
def dr:SV->List PyData
 | []=>[]
 | d::ds=>toPy d::dr ds
end
mutual
def pl:D->Bool
 | .tup ds=>i9 ds
 | .lst ds=>i9 ds
 | .dct _=>false
 | .st _=>false
 | .ln _=>false
 | .mp _ _ _=>false
 | .ix _ _ _=>false
 | _=>true
def i9:SV->Bool
 | []=>true
 | d::ds=>pl d&&i9 ds
end
mutual
def ib:D->D->Bool
 | .non,.non=>true
 | .bl a,.bl b=>a==b
 | .bl a,.int j=>(if a then 1 else 0)==j
 | .int i,.bl b=>i==(if b then 1 else 0)
 | .int i,.int j=>i==j
 | .str x,.str y=>x==y
 | .tup xs,.tup ys=>gC xs ys
 | .lst xs,.lst ys=>gC xs ys
 | _,_=>false
def gC:SV->SV->Bool
 | [],[]=>true
 | x::xs,y::ys=>ib x y&&gC xs ys
 | _,_=>false
end
mutual
theorem kZ:∀(d e:D),pl d=true->pl e=true->PyData.eqv (toPy d) (toPy e)=ib d e
 | .non,e,_,h=>by cases e<;>first | (simp[pl]at h;done) | simp[toPy,PyData.eqv,ib]
 | .bl b,e,_,h=>by cases e<;>first | (simp[pl]at h;done) | simp[toPy,PyData.eqv,ib]
 | .int i,e,_,h=>by cases e<;>first | (simp[pl]at h;done) | simp[toPy,PyData.eqv,ib]
 | .str x,e,_,h=>by cases e<;>first | (simp[pl]at h;done) | simp[toPy,PyData.eqv,ib]
 | .tup ds,e,h1,h=>by
  unfold pl at h1;cases e
  case tup es=>unfold pl at h;simp[toPy,PyData.eqv,ib,gz ds es h1 h]
  case lst es=>unfold pl at h;simp[toPy,PyData.eqv,ib,gz ds es h1 h]
  all_goals first | (simp[pl]at h;done) | simp[toPy,PyData.eqv,ib]
 | .lst ds,e,h1,h=>by
  unfold pl at h1;cases e
  case tup es=>unfold pl at h;simp[toPy,PyData.eqv,ib,gz ds es h1 h]
  case lst es=>unfold pl at h;simp[toPy,PyData.eqv,ib,gz ds es h1 h]
  all_goals first | (simp[pl]at h;done) | simp[toPy,PyData.eqv,ib]
theorem gz:∀(ds es:SV),i9 ds=true->i9 es=true->PyData.eqvAll (dr ds) (dr es)=gC ds es
 | [],es,_,_=>by cases es<;>simp[dr,PyData.eqvAll,gC]
 | d::ds,es,h1,h2=>by
  unfold i9 at h1;rw[A_]at h1;cases es with
  | nil=>simp[dr,PyData.eqvAll,gC]
  | cons e es=>
   unfold i9 at h2;rw[A_]at h2;simp[dr,PyData.eqvAll,gC,kZ d e h1.1 h2.1,gz ds es h1.2 h2.2]
end
mutual
def fw:D->Nat
 | .tup ds=>nA ds+1
 | .lst ds=>nA ds+1
 | _=>0
def nA:SV->Nat
 | []=>0
 | d::ds=>max (fw d) (nA ds)
end
mutual
theorem c7:∀(d:D),(toPy d).depth=fw d
 | .non=>by simp[toPy,PyData.depth,fw]
 | .bl b=>by simp[toPy,PyData.depth,fw]
 | .int i=>by simp[toPy,PyData.depth,fw]
 | .str x=>by simp[toPy,PyData.depth,fw]
 | .tup ds=>by simp[toPy,PyData.depth,fw,iR ds]
 | .lst ds=>by simp[toPy,PyData.depth,fw,iR ds]
 | .dct ks=>by simp[toPy,PyData.depth,fw]
 | .st ks=>by simp[toPy,PyData.depth,fw]
 | .ln ks=>by simp[toPy,PyData.depth,fw]
 | .mp _ _ _=>by simp[toPy,PyData.depth,fw]
 | .ix _ _ _=>by simp[toPy,PyData.depth,fw]
theorem iR:∀(ds:SV),PyData.depthAll (dr ds)=nA ds
 | []=>by simp[dr,PyData.depthAll,nA]
 | d::ds=>by simp[dr,PyData.depthAll,nA,c7 d,iR ds]
end
section
variable {X:Cx}{pins:Sk}{σ:L2.St}{H:Hp}{s:SE}
mutual
theorem dj(I:Inv X pins σ H s):∀(d:D){x:V}{v:SC},pl d=true->Rep X.K H d x->RelV x v->∃as,Reads s.heap v (toPy d) as
 | .non,_,_,_,h,r=>by cases(show _=V.non from h);cases r;exact⟨_,.none⟩
 | .bl b,_,_,_,h,r=>by cases(show _=V.bl b from h);cases r;exact⟨_,.bool b⟩
 | .int i,_,_,_,h,r=>by cases(show _=V.int i from h);obtain⟨t,rfl⟩:=r;exact⟨_,.int i t⟩
 | .str y,_,_,_,h,r=>by obtain⟨h,_⟩:=h;subst h;obtain⟨t,rfl⟩:=r;exact⟨_,.str y t⟩
 | .tup ds,_,_,hp,h,r=>by
  unfold pl at hp;refine cN λ_ kq=>?_;obtain⟨a,vs,e,q,rr⟩:=h;subst e;cases r;obtain⟨aX,rv,⟨o,ho,hc,n,hd⟩,_⟩:=I.tuple q;obtain⟨as,ra⟩:=j0 I ds hp rr rv;exact kq (⟨as,.tuple ho hc hd (by simpa [toPy]using ra)⟩)
 | .lst ds,_,_,hp,h,r=>by
  unfold pl at hp;refine cN λ_ kq=>?_;obtain⟨a,vs,e,q,rr⟩:=h;subst e;cases r;obtain⟨aX,rv,pl,_⟩:=I.list q;obtain⟨o,ho,hc,n,hd⟩:=pl.isList;obtain⟨as,ra⟩:=j0 I ds hp rr rv;exact kq (⟨_,.list ho hc hd (by simpa [toPy]using ra)⟩)
 | .dct ks,_,_,hp,_,_=>by unfold pl at hp;cases hp
 | .st ks,_,_,hp,_,_=>by unfold pl at hp;cases hp
 | .ln ks,_,_,hp,_,_=>by unfold pl at hp;cases hp
 | .mp _ _ _,_,_,hp,_,_=>by unfold pl at hp;cases hp
 | .ix _ _ _,_,_,hp,_,_=>by unfold pl at hp;cases hp
theorem j0(I:Inv X pins σ H s):∀(ds:SV){vs:SX}{us:Sr},i9 ds=true->ar X.K H ds vs->av vs us->∃as,ReadsAll s.heap us (dr ds) as
 | [],_,_,_,h,r=>by cases(show _=[]from h);cases r;exact⟨_,by simpa [dr]using ReadsAll.nil⟩
 | d::ds,_,_,hp,h,r=>by
  unfold i9 at hp;rw[A_]at hp;obtain⟨v,vr,e,h1,h2⟩:=h;subst e;cases r with
  | cons r1 r2=>
   refine cN λ_ kq=>?_;obtain⟨as,q1⟩:=dj I d hp.1 h1 r1;obtain⟨bs,q2⟩:=j0 I ds hp.2 h2 r2;exact kq (⟨_,by simpa [dr]using ReadsAll.cons q1 q2⟩)
end
mutual
theorem fP:∀(d:D){x:V},Rep X.K H d x->(toPy d).canLay0=true
 | .non,_,_=>by simp[toPy,PyData.canLay0]
 | .bl b,_,_=>by simp[toPy,PyData.canLay0]
 | .int i,_,_=>by simp[toPy,PyData.canLay0]
 | .str y,_,h=>by simp[toPy,PyData.canLay0,h.2]
 | .tup ds,_,⟨a,vs,e,q,rr⟩=>by simp[toPy,PyData.canLay0,qr ds rr]
 | .lst ds,_,⟨a,vs,e,q,rr⟩=>by simp[toPy,PyData.canLay0,qr ds rr]
 | .dct ks,_,_=>by simp[toPy,PyData.canLay0]
 | .st ks,_,_=>by simp[toPy,PyData.canLay0]
 | .ln ks,_,_=>by simp[toPy,PyData.canLay0]
 | .mp _ _ _,_,_=>by simp[toPy,PyData.canLay0]
 | .ix _ _ _,_,_=>by simp[toPy,PyData.canLay0]
theorem qr:∀(ds:SV){vs:SX},ar X.K H ds vs->PyData.canLayAll0 (dr ds)=true
 | [],_,_=>by simp[dr,PyData.canLayAll0]
 | d::ds,_,⟨v,vr,e,h1,h2⟩=>by simp[dr,PyData.canLayAll0,fP d h1,qr ds h2]
end
def e9(d e:D):Bool:=(pl d&&pl e)&&(decide (fw d<=60)||decide (fw e<=60))
def BE(K:Fg)(neg:Bool):R2:=λx y H Q=>∃dx dy,Rep K H dx x/\Rep K H dy y/\e9 dx dy=true/\Q (.bl (if neg then !ib dx dy else ib dx dy)) H
theorem ur(h:u+64<cLine)(h2:a<=60\/b<=60):u+min a b<cLine:=by lia
theorem qQ(h:e9 d e=true):fw d<=60\/fw e<=60:=by unfold e9 at h;rw[A_]at h;simpa using h.2
theorem sM(h:e9 d e=true):pl d=true/\pl e=true:=by unfold e9 at h;rw[A_,A_]at h;exact h.1
theorem Ag(hu:X.A.units+64<cLine):ip X (compareOp .Eq) (BE X.K false):=by
 intro pins s σ H x y v u Q I rx ry h;refine cN λ_ kq=>?_;obtain⟨dx,dy,h1,h2,hd,q⟩:=h;obtain⟨p1,p2⟩:=sM hd;obtain⟨as,r1⟩:=dj I dx p1 h1 rx;obtain⟨bs,r2⟩:=dj I dy p2 h2 ry;refine kq (SeqAt.compareEq_reads r1 r2 (fP dx h1) (fP dy h2) (by rw[c7,c7];exact ur hu (qQ hd)) ?_)
 all_goals clear kq
 rw[kZ _ _ p1 p2];exact⟨.bl _,H,I,rfl,q⟩
theorem zr(hu:X.A.units+64<cLine):ip X (compareOp .NotEq) (BE X.K true):=by
 intro pins s σ H x y v u Q I rx ry h;refine cN λ_ kq=>?_;obtain⟨dx,dy,h1,h2,hd,q⟩:=h;obtain⟨p1,p2⟩:=sM hd;obtain⟨as,r1⟩:=dj I dx p1 h1 rx;obtain⟨bs,r2⟩:=dj I dy p2 h2 ry;refine kq (SeqAt.compareNe_reads r1 r2 (fP dx h1) (fP dy h2) (by rw[c7,c7];exact ur hu (qQ hd)) ?_)
 all_goals clear kq
 rw[kZ _ _ p1 p2];exact⟨.bl _,H,I,rfl,q⟩
def cy:D->D->SW:=λa b=>if e9 a b=true then some (.bl (ib a b))else none
def vg:D->D->SW:=λa b=>if e9 a b=true then some (.bl !ib a b)else none
theorem IM{K:Fg}:cI K .cl cy (BE K false):=λ{Z H x y dx dy d Q} s h1 h2 e k=>by
 obtain⟨hd,rfl⟩:=ma e;exact⟨dx,dy,h1.rep s,h2.rep s,hd,k _ Z H (Ex.refl s) rfl⟩
theorem Ju{K:Fg}:cI K .cl vg (BE K true):=λ{Z H x y dx dy d Q} s h1 h2 e k=>by
 obtain⟨hd,rfl⟩:=ma e;exact⟨dx,dy,h1.rep s,h2.rep s,hd,k _ Z H (Ex.refl s) rfl⟩
variable {l r c:SN}{fa fb fc:Fe}{ga gb gc:Gr}{pos p p2:Pos}{k:Nat}
theorem zu(hr:b8 k X.A)(ha:PD X ga l fa)(hb:PD X gb r fb):PD X .cl (.Compare l [.Eq] [r] pos) (ai cy fa fb):=vR (Ag hr.units) IM ha hb (gF _)
theorem LI(hr:b8 k X.A)(ha:PD X ga l fa)(hb:PD X gb r fb):PD X .cl (.Compare l [.NotEq] [r] pos) (ai vg fa fb):=vR (zr hr.units) Ju ha hb (gF _)
theorem eM(hr:b8 k X.A)(ha:PD X ga l fa)(hb:PD X gb r fb):PB X (.Compare l [.Eq] [r] pos) (fB (ai cy fa fb)):=l4 (Ag hr.units) IM ha hb (gF _)
theorem Fj(hr:b8 k X.A)(ha:PD X ga l fa)(hb:PD X gb r fb):PB X (.Compare l [.NotEq] [r] pos) (fB (ai vg fa fb)):=l4 (zr hr.units) Ju ha hb (gF _)
def inD(d:D)(es:SV):Bool:=es.any λe=>ib e d
def D3(neg:Bool):D->D->SW
 | d,.lst es=>if fw d<=60/\(pl d&&i9 es)=true then some (.bl (if neg then !inD d es else inD d es))else none
 | d,.tup es=>if fw d<=60/\(pl d&&i9 es)=true then some (.bl (if neg then !inD d es else inD d es))else none
 | _,_=>none
def Ib(K:Fg)(neg:Bool):R2:=λx y H Q=>∃dx es p ys,Rep K H dx x/\y=.ref p/\(cT K H p ys\/cH K H p ys)/\ar K H es ys/\(fw dx<=60/\(pl dx&&i9 es)=true)/\Q (.bl (if neg then !inD dx es else inD dx es)) H
noncomputable def iw(h:SH)(d:PyData)(y:SC):Bool:=@decide (∃e as,Reads h y e as/\e.canLay0=true/\PyData.eqv e d=true) (Classical.propDecidable _)
theorem rp(r:Reads h y e as)(c:e.canLay0=true):iw h d y=PyData.eqv e d:=by
 unfold iw;cases q:PyData.eqv e d with
 | true=>exact @v_ _ (Classical.propDecidable _) ⟨e,as,r,c,q⟩
 | false=>
  refine @Ot _ (Classical.propDecidable _) λaG=>?_;obtain⟨e',as',r',c',q'⟩:=aG;rw[SeqAt.Reads.unique e' e y as' as c' r' r]at q';rw[q]at q';cases q'
theorem jW(I:Inv X pins σ H s)(dx:D)(hx:pl dx=true):∀{es:SV}{ys:SX}{us:Sr},i9 es=true->ar X.K H es ys->av ys us->us.any (iw s.heap (toPy dx))=inD dx es
 | [],_,_,_,h,r=>by cases(show _=[]from h);cases r;rfl
 | e::es,_,_,hp,h,r=>by
  unfold i9 at hp;rw[A_]at hp;obtain⟨v,vr,z,h1,h2⟩:=h;subst z;cases r with
  | cons r1 r2=>
   obtain⟨as,q⟩:=dj I e hp.1 h1 r1;have ih:=jW I dx hx hp.2 h2 r2;unfold inD at ih ⊢;rw[List.any_cons,List.any_cons,ih,rp q (fP e h1),kZ _ _ hp.1 hx]
theorem lK(I:Inv X pins σ H s)(hx:Rep X.K H dx x)(rx:RelV x v)(hu:A.units+64<cLine)(hd:fw dx<=60)(G5:pl dx=true):∀{es:SV}{ys:SX}{us:Sr},i9 es=true->ar X.K H es ys->av ys us->
  ∀u∈us,SeqAt.EqAt A s u v (iw s.heap (toPy dx) u)
 | [],_,_,_,h,r,u,hm=>by cases(show _=[]from h);cases r;cases hm
 | e::es,_,_,hp,h,r,u,hm=>by
  unfold i9 at hp;rw[A_]at hp;obtain⟨w,vr,z,h1,h2⟩:=h;subst z;cases r with
  | cons r1 r2=>
   rcases s_.mp hm with rfl | hm
   .obtain⟨as,q⟩:=dj I e hp.1 h1 r1;obtain⟨bs,q2⟩:=dj I dx G5 hx rx;rw[rp q (fP e h1)];exact SeqAt.eqAt_reads _ _ A s _ _ as bs q q2 (fP e h1) (fP dx hx) (by rw[c7,c7];exact ur hu (.inr hd))
   .exact lK I hx rx hu hd G5 hp.2 h2 r2 u hm
theorem FZ(hu:X.A.units+66<cLine)(neg:Bool):ip X (compareOp (if neg then .NotIn else .In)) (Ib X.K neg):=by
 intro pins s σ H x y v u Q I rx ry h;obtain⟨dx,es,p,ys,h1,rfl,h2,rr,⟨hd,ND⟩,q⟩:=h;rw[A_]at ND;obtain⟨G5,KW⟩:=ND;cases ry;have HH:X.A.in1.units+64<cLine:=by show X.A.units+1+64<cLine;lia
 rcases h2 with h2 | h2
 .obtain⟨aX,r',pl,hz⟩:=I.list h2;have ha:=jW I dx G5 KW rr r';have kT:∀y,y∈aX.toArray->SeqAt.EqAt X.A.in1 s y v (iw s.heap (toPy dx) y):=λy hy=>lK I h1 rx HH hd G5 KW rr r' y (by simpa using hy);have fin:EP X pins σ Q (.bool (if neg then !aX.toArray.any (iw s.heap (toPy dx))else aX.toArray.any (iw s.heap (toPy dx)))) s:=⟨_,H,I,(by rw[List.any_toArray,ha]<;>rfl),q⟩;cases neg with
  | false=>exact SeqAt.in_listAt _ pl.isList kT fin
  | true=>exact SeqAt.notIn_listAt _ pl.isList kT fin
 .obtain⟨aX,r',pl,hz⟩:=I.tuple h2;have ha:=jW I dx G5 KW rr r';have kT:∀y,y∈aX.toArray->SeqAt.EqAt X.A.in1 s y v (iw s.heap (toPy dx) y):=λy hy=>lK I h1 rx HH hd G5 KW rr r' y (by simpa using hy);have fin:EP X pins σ Q (.bool (if neg then !aX.toArray.any (iw s.heap (toPy dx))else aX.toArray.any (iw s.heap (toPy dx)))) s:=⟨_,H,I,(by rw[List.any_toArray,ha]<;>rfl),q⟩;cases neg with
  | false=>exact SeqAt.in_tupleAt _ (show s.heap.IsTuple p aX.toArray from pl) kT fin
  | true=>exact SeqAt.notIn_tupleAt _ (show s.heap.IsTuple p aX.toArray from pl) kT fin
theorem Lr{K:Fg}{neg:Bool}:cI K .cl (D3 neg) (Ib K neg):=λ{Z H x y dx dy d Q} s h1 h2 e k=>by
 cases dy<;>try cases e
 .obtain⟨hd,rfl⟩:=ma e;obtain⟨a,vs,rfl,q,r⟩:=h2.tup s;exact⟨dx,_,a,vs,h1.rep s,rfl,.inr q,ar.mono s _ r,hd,k _ Z H (Ex.refl s) rfl⟩
 .obtain⟨hd,rfl⟩:=ma e;obtain⟨a,vs,rfl,q,r⟩:=h2.lst s;exact⟨dx,_,a,vs,h1.rep s,rfl,.inl q,ar.mono s _ r,hd,k _ Z H (Ex.refl s) rfl⟩
theorem B9(r:b8 k A):A.units+66<cLine:=by have:=r.un;lia
theorem IT(hr:b8 k X.A)(ha:PD X ga l fa)(hb:PD X gb r fb)(hm:behindInMarks .In r=false:=by rfl):PB X (.Compare l [.In] [r] pos) (fB (ai (D3 false) fa fb)):=l4 (FZ (B9 hr) false) Lr ha hb hm
inductive Ty where | int | bool | str | tuple | list
def Ty.nm:Ty->String
 | .int=>"int" | .bool=>"bool" | .str=>"str" | .tuple=>"tuple" | .list=>"list"
def KF:Ty->D->Bool
 | .int,.int _=>true
 | .int,.bl _=>true
 | .bool,.bl _=>true
 | .str,.str _=>true
 | .tuple,.tup _=>true
 | .list,.lst _=>true
 | _,_=>false
def N':D->String
 | .non=>"NoneType" | .bl _=>"bool" | .int _=>"int" | .str _=>"str" | .tup _=>"tuple" | .lst _=>"list" | .dct _=>"dict" | .st _=>"set" | .ln _=>"dict" | .mp _ _ _=>"dict" | .ix _ _ _=>"dict"
theorem CQ{K:Fg}(T:Ty)(d:D):PySem.W.kitOne K (.type (N' d)) (.type T.nm)=some (KF T d):=by
 cases T<;>cases d<;>rfl
theorem y6(T:Ty):dq X (.builtin "isinstance") (λxs H Q=>∃x d,xs=[x,.ty T.nm]/\Rep X.K H d x/\Q (.bl (KF T d)) H):=by
 intro pins s σ H xs us Q I r h;obtain⟨x,d,rfl,hd,q⟩:=h;obtain⟨u,w,rfl,rx,rt⟩:=r.two;cases(show w=Value.type T.nm from rt);have e:=CQ (K:=X.K) T d;have fin:∀tk,EP X pins σ Q (.bool (KF T d)) {s with toks:=tk}:=λtk=>⟨.bl _,H,I.tok tk,rfl,q⟩;cases d with
 | non=>cases(show x=V.non from hd);cases(show u=Value.none from rx);exact O2 PySem.W.kitx_none I.kIn True.intro e (λz=>nomatch z) fin
 | bl b=>cases(show x=V.bl b from hd);cases(show u=Value.bool b from rx);exact O2 PySem.W.kitx_bool I.kIn True.intro e (λz=>nomatch z) fin
 | int i=>cases(show x=V.int i from hd);obtain⟨t,z⟩:=(show ∃t,u=Value.int i t from rx);cases z;exact O2 PySem.W.kitx_int I.kIn True.intro e (λz=>nomatch z) fin
 | str y=>obtain⟨hd,_⟩:=hd;subst hd;obtain⟨t,z⟩:=(show ∃t,u=Value.str y t from rx);cases z;exact O2 PySem.W.kitx_str I.kIn True.intro e (λz=>nomatch z) fin
 | tup ds=>
  refine cN λ_ kq=>?_;obtain⟨a,vs,e1,hq,rr⟩:=hd;subst e1;cases(show u=Value.ref a from rx);obtain⟨aX,_,⟨o,h1,h2,_⟩,_⟩:=I.tuple hq;exact kq (O2 PySem.W.kitx_tuple I.kIn ⟨o,h1,h2⟩ e (λz=>nomatch z) fin)
 | lst ds=>
  refine cN λ_ kq=>?_;obtain⟨a,vs,e1,hq,rr⟩:=hd;subst e1;cases(show u=Value.ref a from rx);obtain⟨aX,_,pl,_⟩:=I.list hq;obtain⟨o,h1,h2,_⟩:=pl.isList;exact kq (O2 PySem.W.kitx_list I.kIn ⟨o,h1,h2⟩ e (λz=>nomatch z) fin)
 | dct ks=>
  refine cN λ_ kq=>?_;obtain⟨a,e1,hq⟩:=hd;subst e1;cases(show u=Value.ref a from rx);obtain⟨bs,hq,_⟩:=hq;obtain⟨⟨o,es,ep,h1,h2,_⟩,_⟩:=(show bp X.prog X.w H s.heap a (.ext (GG a ks bs))from I.hok a _ hq);exact kq (O2 QZ I.kIn ⟨o,h1,h2.1⟩ e (λz=>nomatch z) fin)
 | st ps=>
  refine cN λ_ kq=>?_;obtain⟨a,bs,e1,_,hq,_⟩:=hd;subst e1;cases(show u=Value.ref a from rx);obtain⟨⟨o,es,ep,t,h1,h2,_⟩,_⟩:=(show bp X.prog X.w H s.heap a (.ext (tF a ps bs))from I.hok a _ hq);exact kq (O2 PySem.W.kitx_set I.kIn ⟨o,h1,h2.1⟩ e (λz=>nomatch z) fin)
 | ln n=>
  refine cN λ_ kq=>?_;obtain⟨a,e1,hq⟩:=hd;subst e1;cases(show u=Value.ref a from rx);obtain⟨⟨o,es,ep,h1,h2,_⟩,_⟩:=(show bp X.prog X.w H s.heap a (.ext (JI a n))from I.hok a _ hq);exact kq (O2 QZ I.kIn ⟨o,h1,h2.1⟩ e (λz=>nomatch z) fin)
 | mp th ks ds=>
  refine cN λ_ kq=>?_;obtain⟨a,bs,vs,e1,hq,_⟩:=hd;subst e1;cases(show u=Value.ref a from rx);obtain⟨⟨o,es,ep,us,h1,h2,_⟩,_⟩:=(show bp X.prog X.w H s.heap a (.ext (fZ th a ks bs vs))from I.hok a _ hq);exact kq (O2 QZ I.kIn ⟨o,h1,h2.1⟩ e (λz=>nomatch z) fin)
 | ix th ks ds=>
  refine cN λ_ kq=>?_;obtain⟨a,o,vs,e1,hq,⟨_,_,_,_,_,_,_,_,es,ep,h2,_⟩,_⟩:=hd;subst e1;cases(show u=Value.ref a from rx);have h1:s.heap.get? a=some o:=(show bp X.prog X.w H s.heap a (.ext (nu a o))from I.hok a _ hq).1;exact kq (O2 QZ I.kIn ⟨o,h1,h2.1⟩ e (λz=>nomatch z) fin)
def Dh(T:Ty):D->SW:=λd=>some (.bl (KF T d))
theorem Ct(T:Ty):bootBuiltins (Str.ofString T.nm)=some (.type T.nm):=by
 cases T
 .exact PyProof.Rows.boot_int
 .exact PyProof.Rows.boot_bool
 .exact PyProof.Rows.boot_str
 .exact PyProof.Rows.boot_tuple
 .exact QY
theorem DU(T:Ty)(hm:X.mg "isinstance"=none)(Mh:X.mg (Str.ofString T.nm)=none)(ha:PD X ga l fa)(hg:Gl X "isinstance":=by rfl)(hg2:Gl X (Str.ofString T.nm):=by rfl)
  (hn:(Str.ofString T.nm)≠"__name__":=by decide) (sS:((Str.ofString T.nm)==("__debug__":Str))=false:=by decide)
  (he:starEach [l,.Name (Str.ofString T.nm) p2] X.env=(false,eval l X.env)::starEach [.Name (Str.ofString T.nm) p2] X.env:=by rfl) :
  PD X .cl (.Call (.Name "isinstance" p) [l,.Name (Str.ofString T.nm) p2] [] pos) (bc (Dh T) fa):=by
 refine PE.imp (jj (y6 T) hg hm PyProof.Rows.boot_isinstance (bF ha (bF (Dg hg2 Mh (Ct T) (show RelV (.ty T.nm) (.type T.nm)from rfl) hn sS) c6 rfl) he) (by decide) (by decide) he rfl) λσ H Q aG=>?_;refine cN λ_ kq=>?_;obtain⟨env,B,Z,d,R,e,k⟩:=aG;obtain⟨x,h1,h2⟩:=b_.mp e;cases h2;exact kq (⟨env,B,Z,x,R,h1,λv Z1 H1 x1 g1=>⟨v,x,rfl,g1.rep x1.zh,k _ Z1 H1 x1 rfl⟩⟩)
end
section
variable {elt:SN}{gens:Sq}{scope:SL}{pos:Pos}{d:Nat}{tg iter:SN}{ifs:Sw}{it acc:SC}{env:Env}
def uU(ce tg iter:SN)(ifs:Sw)(d:Nat)(it acc:SC)(env:Env)(em:Sem Unit):Sem Fin:=do
  standAt iter.pos
  match <- pyNext it with
  | none=>pure (.done .next)
  | some v=>
   letOwnedTupleGo tg it v
   assign tg env v
   let ok <- forIn ifs true λc r=>if r=true then do let ok <- isTrue c env (eval c env);pure (ForInStep.yield ok)else pure (ForInStep.yield r)
   if ok then em
   again (.compLoop ce d it acc env)
def v9(ce tg iter bP:SN)(ifs:Sw)(d:Nat)(it acc:SC)(env:Env):Sem Fin:=do
  standAt iter.pos
  match <- pyNext it with
  | none=>pure (.done .next)
  | some v=>
   letOwnedTupleGo tg it v
   assign tg env v
   let ok <- forIn ifs true λc r=>if r=true then do let ok <- isTrue c env (eval c env);pure (ForInStep.yield ok)else pure (ForInStep.yield r)
   if ok=true then(do
    let x <- eval bP env
    standAt bP.pos
    let x <- foldedSetIterable bP env x
    let i' <- holding [x] (pyIter x)
    let _ <- runOwn (.compStart ce (d+1) i' acc env) env
    again (.compLoop ce d it acc env))
   else again (.compLoop ce d it acc env)
theorem wN(h:gens[d]?=some ⟨tg,iter,ifs,0⟩)(h2:gens[d+1]?=none):compTurn (.ListComp elt gens scope pos) d it acc env=uU (.ListComp elt gens scope pos) tg iter ifs d it acc env (do let _ <- call (.builtin "list.append") [acc,<- eval elt env]):=by
 unfold compTurn;simp only[h,h2]
 rfl
theorem x8(h:gens[d]?=some ⟨tg,iter,ifs,0⟩)(h2:gens[d+1]?=some ⟨tm,bP,kj,0⟩):compTurn (.ListComp elt gens scope pos) d it acc env=v9 (.ListComp elt gens scope pos) tg iter bP ifs d it acc env:=by
 unfold compTurn;simp only[h,h2]
 rfl
end
def fN(lk:Str->Ss):List (Str×NameKind)->Sn->Option Sn
 | [],acc=>some acc
 | (n,k)::r,acc=>if(k==.free)=true then(lk n).bind λc=>fN lk r ((n,c)::acc)else fN lk r acc
theorem kh:∀(names:List (Str×NameKind))(acc cl:Sn),fN (λx=>env.cells.lookup x) names acc=some cl->
  (forIn names acc λ(x:Str×NameKind) (r:Sn)=>(do if x.2==.free then(do let c <- cellOf env x.1;pure (ForInStep.yield ((x.1,c)::r)))else pure (ForInStep.yield r)):Sem Sn)=pure cl
 | [],acc,cl,h=>by cases h;rfl
 | (n,k)::r,acc,cl,h=>by
  rw[List.forIn_cons];unfold fN at h
  by_cases hk:(k==NameKind.free)=true
  .rw[k_ hk]at h;obtain⟨c,h1,h2⟩:=b_.mp h;have G4:cellOf env n=pure c:=by unfold cellOf;rw[show env.cells.lookup n=some c from h1]
   simp only[hk,PV,G4,pure_bind];exact kh r _ cl h2
  .rw[l_ hk]at h;simp only[hk,OS,pure_bind];exact kh r _ cl h
theorem fU(h:fN (λx=>env.cells.lookup x) scope.names []=some cl):closureFor scope env=pure cl:=by
 have:=kh scope.names [] cl h;unfold closureFor;simp only;rw[this]
 rfl
theorem fm:∀{names:List (Str×NameKind)}{acc cl:Sn},fN lk names acc=some cl->(∀p∈acc,lk p.1=some p.2)->∀p∈cl,lk p.1=some p.2
 | [],acc,cl,h,ha=>by cases h;exact ha
 | (n,k)::r,acc,cl,h,ha=>by
  unfold fN at h
  split at h
  .obtain⟨c,h1,h2⟩:=b_.mp h;exact fm h2 λp hp=>by
    rcases s_.mp hp with rfl | hp
    .exact h1
    .exact ha p hp
  .exact fm h ha
theorem fH:∀{names:List (Str×NameKind)}{acc cl:Sn},fN lk names acc=some cl->∀x,((x,NameKind.free)∈names\/∃c,(x,c)∈acc)->∃c,(x,c)∈cl
 | [],acc,cl,h,x,hx=>by
  cases h;rcases hx with hx | hx
  .cases hx
  .exact hx
 | (n,k)::r,acc,cl,h,x,hx=>by
  unfold fN at h
  split at h
  .rename_i hk;obtain⟨c,h1,h2⟩:=b_.mp h;refine fH h2 x ?_;rcases hx with hx | ⟨c',hx⟩
   .rcases s_.mp hx with e | hx
    .cases e;exact .inr ⟨c,j_⟩
    .exact .inl hx
   .exact .inr ⟨c',i_ _ hx⟩
  .rename_i hk;refine fH h x ?_;rcases hx with hx | hx
   .rcases s_.mp hx with e | hx
    .cases e;exact absurd rfl hk
    .exact .inl hx
   .exact .inr hx
theorem cC:∀{cl:Sn},(x,c)∈cl->∃c',cl.lookup x=some c'
 | [],h=>by cases h
 | (y,b)::r,h=>by
  by_cases e:(x==y)=true
  .exact⟨b,by simp[Pc,e]⟩
  .rcases s_.mp h with z | z
   .cases z;exact absurd (beq_self_eq_true x) e
   .obtain⟨c',h'⟩:=cC z;exact⟨c',by simp[Pc,e,h']⟩
theorem de{scope:SL}{env:Env}:∀{names:List (Str×NameKind)}{x:Str}{k:NameKind},
  (names.map λ(n,k)=>if(k==NameKind.free&&env.scope.kind==.function&&env.kindOf n==some .cell)then(n,NameKind.cell)else(n,k)).lookup x=some k->k=.cell\/k=.free->(x,NameKind.free)∈names\/(x,NameKind.cell)∈names
 | [],x,k,h,_=>by simp at h
 | (n,q)::r,x,k,h,hk=>by
  simp only[G_]at h
  by_cases hc:(q==NameKind.free&&env.scope.kind==.function&&env.kindOf n==some .cell)=true
  .rw[k_ hc]at h;simp only[Pc]at h;cases e:x==n with
   | true=>
    have e':=eq_of_beq e;subst e';simp only[A_,R9]at hc;exact .inl (by rw[hc.1.1];exact j_)
   | false=>
    rw[e]at h;rcases de (scope:=scope) h hk with z | z
    .exact .inl (i_ _ z)
    .exact .inr (i_ _ z)
  .rw[l_ hc]at h;simp only[Pc]at h;cases e:x==n with
   | true=>
    rw[e]at h;have e':=eq_of_beq e;subst e';cases h;rcases hk with rfl | rfl
    .exact .inr j_
    .exact .inl j_
   | false=>
    rw[e]at h;rcases de (scope:=scope) h hk with z | z
    .exact .inl (i_ _ z)
    .exact .inr (i_ _ z)
def du(X:Cx)(scope:SL)(cl:Sn)(Nc:Su)(C:SM)(s:SE)(H:Hp)(ex:Sv)(pn:Sk):Cx:=
 {X with N:=Nc,s₀:=s,H₀:=H,env:=compEnvC scope cl C X.env,outer:=X.stack,stack:=X.stack,ex:=ex,fn:=λ_=>false,pn:=pn,xe:=λ_ _=>False}
def kQ(n:Nat)(caps:Sy)(σ:L2.St):L2.St:=List.replicate n none++caps.map λj=>(σ[j]?).getD none
def cW(n:Nat)(caps:Sy)(env:En):En:=List.replicate n .un++caps.map λj=>match env[j]? with | some (.F d)=>.F d | _=>.un
def iz(X:Cx)(scope:SL)(caps:Sy):Bool:=caps.all λj=>match X.N[j]? with
 | some x=>(X.env.scope.names.lookup x==some .cell||X.env.scope.names.lookup x==some .free)&&scope.names.lookup x==some .free
 | none=>false
theorem f'{env:Env}:∀{names:List (Str×NameKind)}{x:Str},names.lookup x=some .free->
  (names.map λ(n,k)=>if(k==NameKind.free&&env.scope.kind==.function&&env.kindOf n==some .cell)then(n,NameKind.cell)else(n,k)).lookup x=some .free\/
  (names.map λ(n,k)=>if(k==NameKind.free&&env.scope.kind==.function&&env.kindOf n==some .cell)then(n,NameKind.cell)else(n,k)).lookup x=some .cell
 | [],x,h=>by simp at h
 | (n,q)::r,x,h=>by
  simp only[G_];simp only[Pc]at h;cases e:x==n with
  | true=>
   rw[e]at h;cases h
   by_cases hc:(NameKind.free==NameKind.free&&env.scope.kind==.function&&env.kindOf n==some .cell)=true
   .rw[k_ hc];simp[Pc,e]
   .rw[l_ hc];simp[Pc,e]
  | false=>
   rw[e]at h
   by_cases hc:(q==NameKind.free&&env.scope.kind==.function&&env.kindOf n==some .cell)=true
   .rw[k_ hc];simp only[Pc,e];exact f' h
   .rw[l_ hc];simp only[Pc,e];exact f' h
section
variable {X:Cx}{pins:Sk}{σ:L2.St}{H:Hp}{s:SE}{scope:SL}{cl:Sn}{Nc own:Su}{caps:Sy}{fp:Sv}
theorem fo(I:Inv X pins σ H s)(h1:b≠X.env.locals)(h2:b∉X.fs):b∉sY X.stack:=λhb=>(s_.mp (I.stkSub b hb)).elim h1 h2
theorem qP{h1:SH}{tk:Nat}{m:Sm}(I:Inv X pins σ H s)(g0:fN (λx=>X.env.cells.lookup x) scope.names []=some cl)(bJ:scope.kind=.function)(hnc:∀y∈scope.names,y.2≠.cell)
  (hfp:∀b∈fp,bR X pins H b) (hfl:∀b∈fp,b<s.sz) (hN:Nc.map some=own.map some++caps.map (λj=>X.N[j]?)) (eT:iz X scope caps=true)
  (ya:h1.Ns s.sz m) (hk:∀b o,s.heap.get? b=some o->h1.get? b=some o) :
  Inv (du X scope cl Nc s.sz s H fp (X.pn++pins)) [] (kQ own.length caps σ) H {s with heap:=h1,toks:=tk}:=by
 have mem:=fm g0 (λp hp=>by cases hp);have low:∀x c,cl.lookup x=some c->X.env.cells.lookup x=some c:=λx c h=>mem (x,c) (OG h);have cellAt:∀x c,cl.lookup x=some c->c<s.sz:=λx c h=>by
  obtain⟨v,q⟩:=I.cell x c (low x c h);exact q.lt
 refine⟨⟨I.ok.mod,bJ,I.ok.glob,I.ok.blt,h_ _,λx y c h1 h2=>I.ok.inj x y c (low x c h1) (low y c h2),λx hx=>?_,λx c hf _=>absurd (show false=true from hf) F_,I.ok.hd,I.ok.frames,.inl rfl,λb hb=>⟨y_ (hfl b hb),λx c h=>(hfp b hb).2.2.2.2.1 x c (low x c h)⟩,
   I.bs,C_ I.ok.bsz I.sz,λb o e hb=>?_,λb hb hf=>fo I (hfp b hb).2.1 (hfp b hb).2.2.1 hf,I.stack,I.stkFree,I.tb⟩,
  rfl,I.bare,Un.kept hk,⟨m,ya,λi x v e1 e2 e3=>?_⟩,λx c h=>?_,I.hok.fresh (h_ _),λx c h=>I.freeC x c (low x c h),λp hp=>?_,I.hok.kept hk,?_⟩
 .have m8:(relabel scope X.env).names.lookup x=some .cell\/(relabel scope X.env).names.lookup x=some .free:=hx;have hmem:(x,NameKind.free)∈scope.names:=by
   rcases m8 with h | h
   .rcases de (scope:=scope) h (.inl rfl)with z | z
    .exact z
    .exact absurd rfl (hnc _ z)
   .rcases de (scope:=scope) h (.inr rfl)with z | z
    .exact z
    .exact absurd rfl (hnc _ z)
  obtain⟨c,hc⟩:=fH g0 x (.inl hmem);exact cC hc
 .rcases(hfp b hb).2.2.2.1 with z | z
  .exact I.ok.noex b o e z
  .exact absurd (E_ (r_ e) (C_ I.ok.bsz z)) (Qf _)
 .have KR:own.length<=i:=by
   by_cases hi:i<own.length
   .unfold kQ at e2;rw[N_ (by simpa using hi),OO,k_ hi]at e2;cases e2
   .lia
  unfold kQ at e2;rw[J_ (by simpa using KR),m_]at e2;simp only[PN]at e2;cases hj:caps[i-own.length]? with
  | none=>rw[hj]at e2;cases e2
  | some j=>
   rw[hj]at e2;have sT:(σ[j]?).getD none=some v:=Option.some.inj e2;have hσ:σ[j]?=some (some v):=by
    cases q:σ[j]? with
    | none=>rw[q]at sT;cases sT
    | some o=>rw[q]at sT;exact OZ some sT
   have hx:X.N[j]?=some x:=by
    have h1:(Nc.map some)[i]?=some (some x):=by rw[m_,show Nc[i]?=some x from e1];rfl
    rw[hN,J_ (by simpa using KR),m_]at h1;simp only[c_]at h1;rw[hj]at h1;exact Option.some.inj h1
   have hc1:=I_.mp eT j (Ox hj);rw[hx]at hc1;simp only[A_,Se,R9]at hc1;obtain⟨hc1,qI⟩:=hc1;obtain⟨m0,Ms,Mt⟩:=I.loc;obtain⟨u,ru,lk⟩:=Mt j x v hx hσ (.inr hc1);refine⟨u,ru,.inr ?_⟩;have Mu:∃c,X.env.cells.lookup x=some c/\s.heap.IsCell c (some u):=by
    rcases lk with ⟨h1,_⟩ | ⟨_,c,h1,h2⟩
    .have G4:X.env.scope.names.lookup x=some .local:=h1;rcases hc1 with z | z<;>· rw[G4]at z;cases z
    .exact⟨c,h1,h2⟩
   obtain⟨c,Mv,Mw⟩:=Mu;obtain⟨c',hc'⟩:=fH g0 x (.inl (OG qI));obtain⟨Mx,A3⟩:=cC hc';have e4:=low x Mx A3;rw[Mv]at e4;cases e4;refine⟨?_,c,A3,?_⟩
   .rcases f' (env:=X.env) qI with z | z
    .exact .inr z
    .exact .inl z
   .obtain⟨o,ho,hd⟩:=Mw;exact⟨o,hk c o ho,hd⟩
 .obtain⟨v,o,ho,hd⟩:=I.cell x c (low x c h);exact⟨v,o,hk c o ho,hd⟩
 .have My:p∈X.pn++pins:=by simpa [du]using hp
  obtain⟨h1,h2,h3,h4,h5⟩:=I.pin p My;exact⟨hk _ _ h1,h2,y_ (r_ h1),fo I h3 h4,h5⟩
 .have:=OZ List.length hN;simp only[c_,t_]at this;simp only[kQ,t_,PN,c_];exact this.symm
end
def dE(is:Sy)(env:En):Bool:=is.all λi=>match env[i]? with | some .un=>true | _=>false
def iT(t:Ft)(c:Fb)(k:SS)(env:En):SV->SU
 | []=>some []
 | d::ds=>(t d env).bind λe1=>(c e1).bind λb=>(if b=true then k e1 else some []).bind λxs=>(iT t c k env ds).bind λys=>some (xs++ys)
structure km(is:List Nat)(t:Ft):Prop where
 len:∀{d:D}{env env':En},t d env=some env'->env'.length=env.length
 oth:∀{d:D}{env env':En},t d env=some env'->∀(j:Nat),j∉is->env'[j]?=env[j]?
 noO:∀{d:D}{env env':En},t d env=some env'->∀(j:Nat)(ds:qE),env'[j]?=some (.O ds)->env[j]?=some (.O ds)
theorem jA{env:En}{i:Nat}{d:D}{j:Nat}{ds:qE}(h:(env.set i (.F d))[j]?=some (.O ds)):env[j]?=some (.O ds):=by
 by_cases e:i=j
 .subst e
  by_cases hl:i<env.length
  .rw[D_ hl]at h;cases h
  .rw[Ou (by simpa using P4 hl)]at h;cases h
 .rw[q_ e]at h;exact h
theorem b9(i:Nat):km [i] (bZ i):=⟨λh=>by cases h;simp,λh j hj=>by cases h;exact q_ (λz=>hj (by simp[z])),λh j ds hj=>by cases h;exact jA hj⟩
theorem ia:∀{is:Sy}{ds:SV}{env env':En},ek is ds env=some env'->env'.length=env.length/\(∀(j:Nat),j∉is->env'[j]?=env[j]?)/\∀(j:Nat)(es:qE),env'[j]?=some (.O es)->env[j]?=some (.O es)
 | [],[],env,env',h=>by cases h;exact⟨rfl,λ_ _=>rfl,λ_ _ h=>h⟩
 | i::is,d::ds,env,env',h=>by
  obtain⟨h1,h2,h3⟩:=ia (ds:=ds) h;refine⟨by simpa using h1,λj hj=>?_,λj es hj=>jA (h3 j es hj)⟩;rw[h2 j λz=>hj (i_ _ z)];exact q_ λz=>hj (by simp[z])
 | [],_::_,_,_,h=>by cases h
 | _::_,[],_,_,h=>by cases h
theorem pR(h:md is d env=some env'):∃ds,ek is ds env=some env':=by
 cases d with
 | tup ds=>exact⟨ds,h⟩
 | _=>cases h
theorem qB(is:Sy):km is (md is):=
 ⟨λh=>let ⟨_,q⟩:=pR h;(ia q).1,λh=>let ⟨_,q⟩:=pR h;(ia q).2.1,λh=>let ⟨_,q⟩:=pR h;(ia q).2.2⟩
theorem Rl.forget{K:Fg}{B Z H:Hp}{e1 env:En}{σ:L2.St}{is:Sy}(R:Rl K B Z H e1 σ)(hl:e1.length=env.length)(ho:∀(j:Nat),j∉is->e1[j]?=env[j]?)(hu:dE is env=true):Rl K B Z H env σ:=by
 have key:∀(j:Nat) s,env[j]?=some s->s=.un\/e1[j]?=some s:=λj s h=>by
  by_cases hj:j∈is
  .have:=I_.mp hu j hj;rw[h]at this;cases s with
   | un=>exact .inl rfl
   | F d=>cases this
   | O ds=>cases this
  .exact .inr ((ho j hj).trans h)
 have G6:∀(j:Nat) ds,env[j]?=some (.O ds)->e1[j]?=some (.O ds):=λj ds h=>by
  rcases key j _ h with z | z
  .cases z
  .exact z
 refine⟨R.bh,R.zh,hl.symm.trans R.len,λj s h=>?_,λj ds a h=>R.ob j ds a (G6 j ds h),λi j ds es a hne h1 h2=>R.ap i j ds es a hne (G6 i ds h1) (G6 j es h2)⟩;rcases key j s h with rfl | z
 .have hj:j < σ.length:=by rw[<- R.len,hl];exact(o_.mp h).1
  exact⟨σ[j],by simp[hj],trivial⟩
 .exact R.sl j s z
theorem Rl.other{K:Fg}{B Z H:Hp}{env:En}{σ:L2.St}{a:SM}{o:HO}(R:Rl K B Z H env σ)(hb:B a=none)(hz:Z a=none)(nO:∀(i:Nat) ds,env[i]?≠some (.O ds)):Rl K B Z (upd H a o) env σ:=
 ⟨dZ R.bh hb,dZ R.zh hz,R.len,λj s h=>by
  obtain⟨x,e,q⟩:=R.sl j s h;refine⟨x,e,?_⟩;cases s with
  | un=>trivial
  | F d=>exact q
  | O ds=>exact absurd h (nO j ds),R.ob,R.ap⟩
abbrev Qv:=SM->Hp->Hp->SV->SX->Prop
def QT:Qv:=λ_ _ _ _ _=>True
structure KY(qv:Qv):Prop where
 nil:∀{a B H},qv a B H [] []
 mon:∀{a B H H' pre vs},(∀b o,b≠a->H b=some o->H' b=some o)->qv a B H pre vs->qv a B H' pre vs
 base:∀{a B B' H pre vs},aK B B'->qv a B' H pre vs->qv a B H pre vs
theorem EX:KY QT:=⟨trivial,λ_ _=>trivial,λ_ _=>trivial⟩
abbrev Qa:=Hp->Hp->Hp->SV->Prop
structure DG(a:Addr)(qa:Qa):Prop where
 ne:∀{B Z H pre},qa B Z H pre->H a≠none
 mon:∀{B Z H Z' H' pre},Ex Z H Z' H'->qa B Z H pre->qa B Z' H' pre
structure Ac(X:Cx)(qa:Qa)(pins:List (Addr×Obj))(a:Addr)(B Z H:Hp)(env:En)(σ:L2.St)(pre:List D)(s:Shared):Prop where
 I:Inv X pins σ H s
 R:Rl X.K B Z H env σ
 nO:∀(i:Nat) ds,env[i]?≠some (.O ds)
 hb:B a=none
 hz:Z a=none
 ac:qa B Z H pre
abbrev qL(K:Fg)(qv:Qv)(a:SM):Qa:=λB Z H pre=>∃vs,H a=some (.lst vs)/\ar K Z pre vs/\qv a B H pre vs
theorem DQ{K:Fg}{qv:Qv}{a:SM}(qo:KY qv):DG a (qL K qv a):=⟨λ⟨vs,h,_⟩ z=>(by rw[z]at h;cases h),λx ⟨vs,h,r,q⟩=>⟨vs,x.h _ _ h,ar.mono x.z _ r,qo.mon (λb o _ h=>x.h b o h) q⟩⟩
abbrev L0(X:Cx)(qv:Qv)(pins:Sk)(a:SM)(B Z H:Hp)(env:En)(σ:L2.St)(pre:SV)(s:SE):Prop:=Ac X (qL X.K qv a) pins a B Z H env σ pre s
abbrev BdT:=(SE->Prop)->Sj->SE->Prop
def xP(X:Cx)(qa:Qa)(a:SM)(Bd:BdT)(k:SS):Prop:=∀(pins:Sk)(s:SE)(σ:L2.St)(H B Z:Hp)(env:En)(pre xs:SV)(P:SE->Prop)(E:Sj),
 Ac X qa pins a B Z H env σ pre s->k env=some xs->pre.length+xs.length<=16000000->(∀s' σ' H' Z',Ac X qa pins a B Z' H' env σ' (pre++xs) s'->Ex Z B Z' H'->P s')->Bd P E s
abbrev Act(X:Cx)(qv:Qv)(a:SM)(Bd:BdT)(k:SS):Prop:=xP X (qL X.K qv a) a Bd k
def LM(X:Cx)(em:Sem Unit):BdT:=λP E s=>wpAny (model X.prog X.w) X.A em (λ_ s'=>P s') E s
structure A8(P:Program)(w:World)(ce:Expr):Prop where
 lp:∀{A:Around}{d:Nat}{it acc:Value}{env:Env}{Q:Fin->Shared->Prop}{E:Value->Shared->Prop}{s:Shared},wpAny (model P w) A ((compTurn ce d it acc env).onRaise (λx=>do noteFrame x env;theTreesLotGoes x)) Q E s->wpAny (model P w) (A.under (.compLoop ce d it acc env)) ((model P w).den (.compLoop ce d it acc env)) Q E s
 st:∀{A:Around}{d:Nat}{it acc:Value}{env:Env}{Q:Fin->Shared->Prop}{E:Value->Shared->Prop}{s:Shared},wpAny (model P w) A ((compStart ce d it acc env).onRaise (λx=>do noteFrame x env;standAt theWindowsPlace)) Q E s->wpAny (model P w) (A.under (.compStart ce d it acc env)) ((model P w).den (.compStart ce d it acc env)) Q E s
theorem L9{P:SF}{w:SI}{elt:SN}{gens:Sq}{scope:SL}{pos:Pos}:A8 P w (.ListComp elt gens scope pos):=⟨λh=>h,λh=>h⟩
def Tw(X:Cx)(ce:SN)(d:Nat)(it:SM)(acc:SC)(tg:SN)(ifs:Sw)(Bd:BdT):Prop:=∀(s:SE)(Q:Fin->SE->Prop)(E:Sj),
   wpAny (model X.prog X.w) X.A (pyNext (.ref it)) (λr s1=>match r with
    | none=>Q (.done .next) s1
    | some v=>wpAny (model X.prog X.w) X.A (letOwnedTupleGo tg (.ref it) v) (λ_ s2=>wpAny (model X.prog X.w) X.A (assign tg X.env v) (λ_ s3=>
      wpAny (model X.prog X.w) X.A (forIn ifs true λc r=>if r=true then do let ok <- isTrue c X.env (eval c X.env);pure (ForInStep.yield ok)else pure (ForInStep.yield r)) (λok s4=>
       if ok=true then Bd (λs5=>Q (.again (.compLoop ce d (.ref it) acc X.env)) s5) E s4 else Q (.again (.compLoop ce d (.ref it) acc X.env)) s4) E s3) E s2) E s1) E s->
   wpAny (model X.prog X.w) X.A (compTurn ce d (.ref it) acc X.env) Q E s
section
variable {X:Cx}{a:SM}{elt:SN}{fe:Fe}
def a5(f:Fe):SS:=λenv=>(f env).bind λd=>some [d]
abbrev Fn(X:Cx)(a:SM)(elt:SN):BdT:=LM X (do let _ <- call (.builtin "list.append") [.ref a,<- eval elt X.env])
theorem AM(hx:∀e s,¬X.xe e s)(h:PD X .cl elt fe):Act X QT a (Fn X a elt) (a5 fe):=by
 intro pins s σ H B Z env pre xs P E A e hl hP;refine cN λ_ kq=>?_;obtain⟨d,e1,e2⟩:=b_.mp e;cases e2;obtain⟨vs,hv,rr,_⟩:=A.ac;refine kq (a_ (OX (h pins s σ H _ A.I ⟨env,B,Z,d,A.R,e1,λv Z1 H1 x1 g1=>(show ∃Z1,Ex Z H Z1 H1/\Rep X.K Z1 d v from⟨Z1,x1,g1⟩)⟩) (λu s1 aG=>?_) λe s z=>(hx e s z).elim))
 all_goals clear kq
 obtain⟨v,H1,I1,r1,Z1,x1,g1⟩:=aG;have hne:H a≠none:=by rw[hv];simp
 refine a_ (OX (nX pins s1 σ H1 (.ref a) [v] (.ref a) [u] (λy H2=>H2=upd H1 a (.lst (vs++[v]))) I1 rfl (.cons r1 .nil) ⟨a,vs,v,rfl,rfl,x1.h _ _ hv,by rw[<- rr.len,OJ];simp at hl;lia,rfl⟩) (λw s2 aG=>?_) λe s z=>(hx e s z).elim);obtain⟨y,H2,I2,r2,q⟩:=aG;subst q;have hz1:=x1.fr a hne A.hz;have R1:=A.R.ext x1;refine d_ (hP s2 σ _ Z1 ⟨I2,R1.other A.hb hz1 A.nO,A.nO,A.hb,hz1,vs++[v],ax,(ar.mono x1.z pre rr).app (ar.one g1),trivial⟩ ?_);exact⟨dZ R1.bh A.hb,x1.z,dZ R1.zh hz1,λb hb e=>x1.fr b (lV A.R.bh hb) e,x1.nf⟩
def Bk(X:Cx)(ifs:Sw)(c:Fb):Prop:=∀(pins:Sk)(s:SE)(σ:L2.St)(H:Hp)(Q:Bool->Hp->Prop)(E:Sj),Inv X pins σ H s->TB X.K c σ H Q->
 wpAny (model X.prog X.w) X.A (forIn ifs true λc r=>if r=true then do let ok <- isTrue c X.env (eval c X.env);pure (ForInStep.yield ok)else pure (ForInStep.yield r)) (TP X pins σ Q) E s
theorem bQ:Bk X [] S3:=λpins s σ H Q E I aG=>by
 obtain⟨env,B,Z,b,R,e,k⟩:=aG;cases e;exact wpAny_tests_nil ⟨H,I,k Z H (Ex.refl R.zh)⟩
theorem pO(hx:∀e s,¬X.xe e s)(h:PB X c f):Bk X [c] f:=λpins s σ H Q E I q=>
 wpAny_tests_one (OX (h pins s σ H Q I q) (λ_ _ z=>z) λe s z=>(hx e s z).elim)
theorem jZ{ce:SN}{qa:Qa}(co:A8 X.prog X.w ce)(qo:DG a qa)
  (hx:∀e s,¬X.xe e s) (bq:X.calm=true) (T:Turn X.prog X.w X.K tg J fp it tn) (hg:GD X tg t) (ht:km is t) (A9:Bk X ifs c) (mY:xP X qa a Bd k)
  (Ba:Tw X ce dd it acc tg ifs Bd) (A:Ac X qa pins a B Z H env σ pre s) (hfp:∀b∈fp,bR X pins H b) (htn:tn 0 s.heap) (hw:Walk X.K Z ds J) (hu:dE is env=true)
  (Bb:iT t c k env ds=some xs) (hl:pre.length+xs.length<=16000000) (hR:∀s' σ' H' Z',Ac X qa pins a B Z' H' env σ' (pre++xs) s'->Ex Z B Z' H'->(∀b∈fp,H' b=none)->R (.ok .next) s') :
  codeAny (model X.prog X.w) X.A (.compLoop ce dd (.ref it) acc X.env) R s:=by
 have uO:∀{H':Hp},(∀b∈fp,H' b=none)->∀b∈fp,bR X pins H' b:=λhn b hb=>⟨hn b hb,(hfp b hb).2⟩;refine codeAny_loop rfl (λn s'=>∃i σ' H' Z' pre' rest,Ac X qa pins a B Z' H' env σ' pre' s'/\tn i s'.heap/\(∀b∈fp,H' b=none)/\n=ds.length-i/\i<=ds.length/\Ex Z B Z' H'/\iT t c k env (ds.drop i)=some rest/\pre'++rest=pre++xs)
  (λn s1 hI=>?_) ds.length ⟨0,σ,H,Z,pre,xs,A,htn,λb hb=>(hfp b hb).1,by simp,Py _,⟨A.R.bh,aK.refl _,A.R.zh,λ_ _ h=>h,λ_ _ _ h=>h⟩,by simpa using Bb,rfl⟩
 obtain⟨i,σ1,H1,Z1,DH,rest,A1,NG,Mz,rfl,hi,x1,yd,nL⟩:=hI;refine co.lp (wpAny_noted (Ba s1 _ _ ?_));obtain⟨w1,w2⟩:=hw Z1 H1 x1.z A1.R.zh i
 by_cases hlt:i<ds.length
 .obtain⟨go,yl⟩:=w1 hlt;refine br (T.item X rfl rfl rfl bq i pins s1 σ1 H1 _ A1.I (uO Mz) NG go) λr s2 aG=>?_;obtain⟨u,hr,h2⟩:=aG;subst hr;refine br h2 λ_ s3 aG=>?_;refine cN λ_ kq=>?_;obtain⟨x,H3,I3,r3,y3,MA,KP⟩:=aG;obtain⟨Z3,d,x3,hd,rep3⟩:=yl x H3 y3;have Mr:ds.drop i=d::ds.drop (i+1):=by
   obtain⟨h1,h2⟩:=o_.mp hd;rw[PR h1,h2]
  rw[Mr]at yd;unfold iT at yd;obtain⟨e1,g1,yd⟩:=b_.mp yd;obtain⟨b,g2,yd⟩:=b_.mp yd;obtain⟨ys,g3,yd⟩:=b_.mp yd;obtain⟨zs,g4,yd⟩:=b_.mp yd;cases yd;have I3':=I3.pinned (uO KP) (T.obj _ _ MA);have hne:=qo.ne A1.ac;have R3:=A1.R.ext x3;refine kq (OX (hg _ s3 σ1 H3 x u (λσ4 H4=>∃Z4,Ex Z3 H3 Z4 H4/\Rl X.K B Z4 H4 e1 σ4) I3' r3 ⟨env,B,Z3,d,e1,R3,rep3,g1,λσ4 Z4 H4 x4 R4=>⟨Z4,x4,R4⟩⟩) (λ_ s4 aG=>?_) λe s z=>(hx e s z).elim)
  all_goals clear kq
  obtain⟨σ4,H4,I4,Z4,x4,R4⟩:=aG;have x34:=x3.trans x4;have EC:∀(s7:SE)(σ7:L2.St)(H7 Z7:Hp)(DI:SV),Ac X qa (pins++jI fp s3.heap) a B Z7 H7 e1 σ7 DI s7->Ex Z B Z7 H7->DI++zs=pre++xs->
    ∃m,m<ds.length-i/\∃i σ' H' Z' pre' rest,Ac X qa pins a B Z' H' env σ' pre' s7/\tn i s7.heap/\(∀b∈fp,H' b=none)/\m=ds.length-i/\i<=ds.length/\Ex Z B Z' H'/\iT t c k env (ds.drop i)=some rest/\pre'++rest=pre++xs:=by
   intro s7 σ7 H7 Z7 DI A7 x7 h7;have Kc:∀b∈fp,∀o,s3.heap.get? b=some o->s7.heap.get? b=some o/\H7 b=none:=λb hb o e=>
    let q:=A7.I.pin (b,o) (B_ _ (B_ _ (iZ hb e)))
    ⟨q.1,q.2.1⟩
   refine⟨ds.length-(i+1),by lia,i+1,σ7,H7,Z7,DI,zs,⟨A7.I.unpinned,A7.R.forget (ht.len g1) (ht.oth g1) hu,A1.nO,A7.hb,A7.hz,A7.ac⟩,T.keep _ _ _ MA λb hb o e=>(Kc b hb o e).1,λb hb=>?_,rfl,hlt,x7,g4,h7⟩;obtain⟨o,e,_⟩:=T.obj _ _ MA b hb;exact(Kc b hb o e).2
  refine br (A9 _ s4 σ4 H4 (λb' H5=>b'=b/\∃Z5,Ex Z4 H4 Z5 H5) _ I4 ⟨e1,B,Z4,b,R4,g2,λZ5 H5 x5=>⟨rfl,Z5,x5⟩⟩) λok s5 aG=>?_;obtain⟨H5,I5,hok,Z5,x5⟩:=aG;subst hok;have hne4:H4 a≠none:=lV x34.h hne;have hz5:=x5.fr a hne4 (x34.fr a hne A1.hz);have x35:=x34.trans x5;have A5:Ac X qa (pins++jI fp s3.heap) a B Z5 H5 e1 σ4 DH s5:=⟨I5,R4.ext x5,λj es h=>A1.nO j es (ht.noO g1 j es h),A1.hb,hz5,qo.mon x35 A1.ac⟩;have xB:Ex Z B Z5 H5:=x1.transB (x35.part A1.R.bh);cases ok with
  | false=>
   rw[l_ (by simp)]at g3;cases g3;rw[l_ (by simp)];exact⟨rfl,EC s5 σ4 H5 Z5 DH A5 xB (by simpa using nL)⟩
  | true=>
   rw[k_ rfl]at g3;rw[k_ rfl];have hlen:=OZ List.length nL;simp only[t_]at hlen;exact mY _ s5 σ4 H5 B Z5 e1 DH ys _ _ A5 g3 (by lia) λs7 σ7 H7 Z7 A7 x7=>⟨rfl,EC s7 σ7 H7 Z7 (DH++ys) A7 (xB.transB x7) (by rw[Po];exact nL)⟩
 .have hii:i=ds.length:=by lia
  subst hii;rw[List.drop_eq_nil_of_le (by lia)]at yd;cases yd;rw[O9]at nL;refine br (T.done X rfl rfl rfl bq _ pins s1 σ1 H1 _ A1.I (uO Mz) NG (w2 (h_ _))) λr s2 aG=>?_;obtain⟨hr,I2⟩:=aG;subst hr;exact hR s2 σ1 H1 Z1 ⟨I2,A1.R,A1.nO,A1.hb,A1.hz,by rw[<- nL];exact A1.ac⟩ x1 Mz
end
section
variable {P:SF}{w:SI}{A:SG}{elt:SN}{gens:Sq}{scope:SL}{pos:Pos}{d:Nat}{tg iter:SN}{ifs:Sw}{it acc:SC}{env:Env}{R:Result->SE->Prop}{s:SE}
theorem pY{ce:SN}(co:A8 P w ce)(hc:(clausesOf ce)[d]?=some ⟨tg,iter,ifs,0⟩)(h0:codeAny (model P w) A (.compLoop ce d it acc env) R s)
    (h1:wpAny (model P w) A (pyIter it) (λMB s'=>codeAny (model P w) A (.compLoop ce d MB acc env) R s') (notedBy (model P w) A env λx s'=>R (.error x) s') s) :
    codeAny (model P w) A (.compStart ce d it acc env) R s:=by
  refine codeAny_of_tree (co.st (wpAny_notedAt ?_));unfold compStart;rw[hc];show wpAny (model P w) A (ask >>= _) _ _ s;refine a_ (Pd (wpAny_ite ?_))<;>skip
  split
  . first
      | exact a_ (d_ (d_ ⟨rfl,h0⟩))
      | exact d_ ⟨rfl,h0⟩
  . refine a_ (wpAny_rule ?_)
    first
      | exact a_ (Pf (a_ (OX h1 (λMB s' q=>d_ ⟨rfl,q⟩) λ_ _ x=>x)))
      | (show wpAny (model P w) A (standAt iter.pos >>= _) _ _ s
         exact a_ (Pf (a_ (OX h1 (λMB s' q=>d_ ⟨rfl,q⟩) λ_ _ x=>x))))
end
section
variable {X:Cx}{a:SM}{elt:SN}{gens:Sq}{scope:SL}{pos:Pos}{d:Nat}{tg iter tm bP:SN}{ifs kj:Sw}{it:SM}
theorem vX{ce:SN}{em:Sem Unit}(ht:compTurn ce d (.ref it) (.ref a) X.env=uU ce tg iter ifs d (.ref it) (.ref a) X.env em):Tw X ce d it (.ref a) tg ifs (LM X em):=by
 intro s Q E hw;rw[ht];unfold uU;refine a_ (Pf (a_ (br hw λr s1 q1=>?_)));cases r with
 | none=>exact d_ q1
 | some v=>
  refine a_ (br q1 λ_ s2 q2=>a_ (br q2 λ_ s3 q3=>a_ (br q3 λok s4 q4=>?_)));cases ok with
  | false=>exact d_ (show Q (.again (.compLoop ce d (.ref it) (.ref a) X.env)) s4 from by rw[l_ (by simp)]at q4;exact q4)
  | true=>
   rw[k_ rfl]at q4;exact a_ (br q4 λ_ s5 q5=>d_ q5)
def z4(X:Cx)(a:SM)(ce:SN)(d:Nat)(bP:SN):BdT:=λP E s=>
 wpAny (model X.prog X.w) X.A (eval bP X.env) (λx s5=>wpAny (model X.prog X.w) X.A (pyIter x) (λi' s6=>
  codeAny (model X.prog X.w) X.A (.compStart ce (d+1) i' (.ref a) X.env) (λr s7=>match r with | .ok _=>P s7 | .error e=>cameBackBy (model X.prog X.w) X.A X.env E e s7) s6) E s5) E s
theorem vo{ce:SN}(ht:compTurn ce d (.ref it) (.ref a) X.env=v9 ce tg iter bP ifs d (.ref it) (.ref a) X.env)(hs:∀x,foldedSetIterable bP X.env x=pure x):Tw X ce d it (.ref a) tg ifs (z4 X a ce d bP):=by
 intro s Q E hw;rw[ht];unfold v9;refine a_ (Pf (a_ (br hw λr s1 q1=>?_)));cases r with
 | none=>exact d_ q1
 | some v=>
  refine a_ (br q1 λ_ s2 q2=>a_ (br q2 λ_ s3 q3=>a_ (br q3 λok s4 q4=>?_)));cases ok with
  | false=>exact d_ (show Q (.again (.compLoop ce d (.ref it) (.ref a) X.env)) s4 from by rw[l_ (by simp)]at q4;exact q4)
  | true=>
   rw[k_ rfl]at q4;refine a_ (br q4 λx s5 q5=>a_ (Pf (a_ (Rh (hs x) (a_ (K_ (br q5 λi' s6 q6=>?_)))))));refine a_ (wpAny_runOwn (codeAny_mono q6 λr s7 q7=>?_));cases r with
   | ok f=>exact d_ q7
   | error e=>exact q7
def ee(fi:Fi)(is:Sy)(t:Ft)(c:Fb)(k:SS):SS:=λenv=>(fi env).bind λds=>if dE is env=true then iT t c k env ds else none
theorem rq{ce:SN}{qa:Qa}(co:A8 X.prog X.w ce)(qo:DG a qa)(hx:∀e s,¬X.xe e s)(bq:X.calm=true)(h2:(clausesOf ce)[d+1]?=some ⟨tm,bP,kj,0⟩)
  (hi:ID X tm bP fi) (hg:GD X tm t) (ht:km is t) (A9:Bk X kj c) (mY:xP X qa a Bd k)
  (Ba:∀it,Tw X ce (d+1) it (.ref a) tm kj Bd) :
  xP X qa a (z4 X a ce d bP) (ee fi is t c k):=by
 intro pins s σ H B Z env pre xs P E Aq e hl hP;obtain⟨ds,e1,e2⟩:=b_.mp e;have hu:dE is env=true:=by
  by_cases hu:dE is env=true
  .exact hu
  .rw[l_ hu]at e2;cases e2
 rw[k_ hu]at e2;refine OX (hi pins s σ H (λJ H1=>∃Z1,Ex Z H Z1 H1/\Walk X.K Z1 ds J) Aq.I ⟨env,B,Z,ds,Aq.R,e1,λJ Z1 H1 x1 wk=>⟨Z1,x1,wk⟩⟩) (λx s5 q5=>?_) λe s z=>(hx e s z).elim;refine OX q5 (λi' s6 aG=>?_) λe s z=>(hx e s z).elim;obtain⟨it,fp,tn,J,H6,hit,I6,T,NH,fp6,Z6,x6,wk⟩:=aG;subst hit;have A6:Ac X qa pins a B Z6 H6 env σ pre s6:=⟨I6,Aq.R.ext x6,Aq.nO,Aq.hb,x6.fr a (qo.ne Aq.ac) Aq.hz,qo.mon x6 Aq.ac⟩;have go:=jZ co qo (a:=a) hx bq T hg ht A9 mY (Ba it) A6 fp6 NH wk hu e2 hl
  (R:=λr s7=>match r with | .ok _=>P s7 | .error e=>cameBackBy (model X.prog X.w) X.A X.env E e s7)
  λs' σ' H' Z' A' x' _=>hP s' σ' H' Z' A' ((x6.part Aq.R.bh).transB x')
 exact pY co h2 go (T.self _ 0 _ _ _ NH go)
end
structure Kd(X:Cx)(qa:Qa)(a:Addr)(ce:Expr)(d:Nat)(tg:Expr)(ifs:List Expr)(t:Ft)(c:Fb)(k:En->Option (List D)):Prop where
 g:GD X tg t
 ts:Bk X ifs c
 ex:∃Bd,xP X qa a Bd k/\∀it,Tw X ce d it (.ref a) tg ifs Bd
abbrev FN(X:Cx)(qv:Qv)(a:SM)(elt:SN)(gens:Sq)(scope:SL)(pos:Pos)(d:Nat)(tg:SN)(ifs:Sw)(t:Ft)(c:Fb)(k:SS):Prop:=Kd X (qL X.K qv a) a (.ListComp elt gens scope pos) d tg ifs t c k
section
variable {X:Cx}{a:SM}{elt:SN}{gens:Sq}{scope:SL}{pos:Pos}{d:Nat}{tg iter tm bP:SN}{ifs kj:Sw}{t t':Ft}{c c':Fb}{k:SS}{fe:Fe}{fi:Fi}{is:Sy}{qv:Qv}
theorem bj(hx:∀e s,¬X.xe e s)(hg:GD X tg t)(A9:Bk X ifs c)(he:PD X .cl elt fe)(h:gens[d]?=some ⟨tg,iter,ifs,0⟩:=by rfl)(h2:gens[d+1]?=none:=by rfl):FN X QT a elt gens scope pos d tg ifs t c (a5 fe):=
 ⟨hg,A9,_,AM hx he,λ_=>vX (wN h h2)⟩
theorem lS(hx:∀e s,¬X.xe e s)(bq:X.calm=true)(hg:GD X tg t)(A9:Bk X ifs c)(hi:ID X tm bP fi)(ht:km is t')(b:FN X QT a elt gens scope pos (d+1) tm kj t' c' k)
  (h:gens[d]?=some ⟨tg,iter,ifs,0⟩:=by rfl) (h2:gens[d+1]?=some ⟨tm,bP,kj,0⟩:=by rfl) (hs:∀x,foldedSetIterable bP X.env x=pure x:=by intro _;rfl):FN X QT a elt gens scope pos d tg ifs t c (ee fi is t' c' k):=by
 obtain⟨Bd,mY,Ba⟩:=b.ex;exact⟨hg,A9,_,rq L9 (DQ EX) hx bq h2 hi b.g ht b.ts mY Ba,λ_=>vo (x8 h h2) hs⟩
end
def bG(fi:Fi)(is:Sy)(t:Ft)(c:Fb)(k:SS)(n:Nat)(caps:Sy):Fe:=λenv=>(fi env).bind λds=>if dE is (cW n caps env)=true then(iT t c k (cW n caps env) ds).bind λxs=>if xs.length<=16000000 then some (.lst xs)else none else none
theorem mQ(h:bG fi is t c k n caps env=some d) :
  ∃ds xs,fi env=some ds/\dE is (cW n caps env)=true/\iT t c k (cW n caps env) ds=some xs/\xs.length<=16000000/\d=.lst xs:=by
 obtain⟨ds,e1,e2⟩:=b_.mp h
 by_cases hu:dE is (cW n caps env)=true
 .rw[k_ hu]at e2;refine cN λ_ kq=>?_;obtain⟨xs,e3,e4⟩:=b_.mp e2;obtain⟨e5,e6⟩:=ma e4;exact kq (⟨ds,xs,e1,hu,e3,e5,e6.symm⟩)
 .rw[l_ hu]at e2;cases e2
theorem je(n:Nat)(caps:Sy)(env:En):∀(i:Nat) ds,(cW n caps env)[i]?≠some (.O ds):=λi ds h=>by
 unfold cW at h
 by_cases hi:i<n
 .rw[N_ (by simpa using hi),OO,k_ hi]at h;cases h
 .rw[J_ (by simpa using hi),m_]at h;cases q:caps[i-(List.replicate n Slot.un).length]? with
  | none=>rw[q]at h;cases h
  | some j=>
   rw[q]at h;simp only[Option.map_some,Option.some.injEq]at h
   split at h<;>cases h
theorem Rl.cap{K:Fg}{B Z H H':Hp}{env:En}{σ:L2.St}(R:Rl K B Z H env σ)(n:Nat)(caps:Sy)(s1:aK H H')(s2:aK Z H'):Rl K H Z H' (cW n caps env) (kQ n caps σ):=by
 refine⟨s1,s2,by simp[cW,kQ],λi s h=>?_,λi ds a h=>absurd h (je n caps env i ds),λi j ds es a _ h=>absurd h (je n caps env i ds)⟩;unfold cW at h;unfold kQ
 by_cases hi:i<n
 .rw[N_ (by simpa using hi),OO,k_ hi]at h ⊢;cases h;exact⟨none,rfl,trivial⟩
 .rw[J_ (by simpa using hi),m_]at h ⊢;simp only[PN]at h ⊢;cases q:caps[i-n]? with
  | none=>rw[q]at h;cases h
  | some j=>
   rw[q]at h;simp only[Option.map_some,Option.some.injEq]at h ⊢;refine⟨_,rfl,?_⟩
   split at h
   .rename_i dd hj;subst h;obtain⟨x,h1,v,h2,r⟩:=R.sl j _ hj;rw[h1,h2];exact⟨v,rfl,r⟩
   .subst h;trivial
section
variable {X:Cx}{elt:SN}{rest:Sq}{scope:SL}{pos:Pos}{tg iter:SN}{ifs:Sw}{t:Ft}{c:Fb}{k:SS}{fi:Fi}{is caps:Sy}{cl:Sn}{Nc own:Su}
theorem oR{qv:Qv}(qo:KY qv)(ht:km is t)(bq:X.calm=true)(g0:fN (λx=>X.env.cells.lookup x) scope.names []=some cl)(bJ:scope.kind=.function)(hnc:∀y∈scope.names,y.2≠.cell)
  (hN:Nc.map some=own.map some++caps.map (λj=>X.N[j]?)) (eT:iz X scope caps=true)
  (hb:∀C s H ex pn a,FN (du X scope cl Nc C s H ex pn) qv a elt (⟨tg,iter,ifs,0⟩::rest) scope pos 0 tg ifs t c k)
  {pins:Sk} {σ:L2.St} {s2:SE} {H2 B Z2:Hp} {env:En} {ds xs:SV} {E:Sj} {RR:SC->SM->Result->SE->Prop} {it:SM} {fp:Sv} {tn:Nat->SH->Prop} {J:It}
  (I2:Inv X pins σ H2 s2) (R2:Rl X.K B Z2 H2 env σ) (T:Turn X.prog X.w X.K tg J fp it tn) (Bc:tn 0 s2.heap) (qF:∀b∈fp,bR X pins H2 b) (wk:Walk X.K Z2 ds J) (hu:dE is (cW own.length caps env)=true)
  (Bb:iT t c k (cW own.length caps env) ds=some xs) (hl:xs.length<=16000000)
  (MC:∀a C H' Z' s' vs m,Inv X pins σ H' s'->s'.heap.Ns C m->bR X pins H' C->Ex Z2 H2 Z' H'->H2 a=none->H' a=some (.lst vs)->Z' a=none->ar X.K Z' xs vs->qv a H2 H' xs vs->RR (.ref a) C (.ok .next) s') :
  wpAny (model X.prog X.w) X.A (newList []) (λacc s₃=>wpAny (model X.prog X.w) X.A (newFunctionEnv scope X.env.globals cl [] X.env.qual none .none (some X.env)) (λG7 s₄=>
   codeAny (model X.prog X.w) X.A (.compStart (.ListComp elt (⟨tg,iter,ifs,0⟩::rest) scope pos) 0 (.ref it) acc {G7 with scope:=relabel scope X.env}) (RR acc G7.locals) s₄) E s₃) E s2:=by
 refine OI ?_ (by size_fits);have hf:H2 s2.sz=none:=I2.hok.fresh (h_ _);have I3:Inv X pins σ (upd H2 s2.sz (.lst [])) {s2 with heap:=s2.heap.push {cls:=.type "list",dict:=none,data:=.seq ([]:Sr).toArray}}:=
  I2.laid (λb u e=>e_ _ e) (h_ _) (show bp X.prog X.w _ _ _ (.lst [])from⟨by simp,[],0,.nil,n_ _ rfl⟩)
 generalize yk:({s2 with heap:=s2.heap.push {cls:=.type "list",dict:=none,data:=.seq ([]:Sr).toArray}}:SE)=s3 at I3 ⊢;have Ke:∀b o,s2.heap.get? b=some o->s3.heap.get? b=some o:=λb o e=>by rw[<- yk];exact e_ _ e
 have Kf:s3.sz=s2.sz+1:=by rw[<- yk];exact RE _ _
 have hfl:∀b∈fp,b<s2.sz:=λb hb=>let ⟨o,e,_⟩:=T.obj _ _ Bc b hb;r_ e;have Kg:∀b∈fp,bR X pins (upd H2 s2.sz (.lst [])) b:=λb hb=>⟨by rw[aH (y_ (hfl b hb))];exact(qF b hb).1,(qF b hb).2⟩;refine Ri hnc (by intro y hy;simp at hy) (λh1 ya hsb=>?_) bJ;have Kh:∀b o,s3.heap.get? b=some o->h1.get? b=some o:=λb o e=>hsb.extBut b o (y_ (r_ e)) (e_ _ e);have I4:=qP (tk:=s3.toks+([]:List (Str×SC)).length) I3 g0 bJ hnc Kg (λb hb=>by rw[Kf];exact Pp (hfl b hb)) hN eT ya Kh;generalize hXc:du X scope cl Nc s3.sz s3 (upd H2 s2.sz (.lst [])) fp (X.pn++pins)=Xc at I4;have bb:FN Xc qv s2.sz elt (⟨tg,iter,ifs,0⟩::rest) scope pos 0 tg ifs t c k:=by rw[<- hXc];exact hb _ _ _ _ _ _
 obtain⟨Bd,mY,Ba⟩:=bb.ex;have eP:Xc.prog=X.prog:=by rw[<- hXc];rfl
 have eW:Xc.w=X.w:=by rw[<- hXc];rfl
 have eK:Xc.K=X.K:=by rw[<- hXc];rfl
 have eA:Xc.A=X.A:=by rw[<- hXc];rfl
 have eE:Xc.env=compEnvC scope cl s3.sz X.env:=by rw[<- hXc];rfl
 have hx:∀e s,¬Xc.xe e s:=λe s z=>by rw[<- hXc]at z;exact z
 have Bn:Xc.calm=true:=by rw[<- hXc];exact bq
 have T':Turn Xc.prog Xc.w Xc.K tg J fp it tn:=by rw[eP,eW,eK];exact T
 have A4:L0 Xc qv [] s2.sz H2 Z2 (upd H2 s2.sz (.lst [])) (cW own.length caps env) (kQ own.length caps σ) [] {s3 with heap:=h1,toks:=s3.toks+([]:List (Str×SC)).length}:=
  ⟨I4,by rw[eK];exact R2.cap _ _ (dW hf) (dZ R2.zh (R2.zh.free hf)),je _ _ _,hf,R2.zh.free hf,[],ax,rfl,qo.nil⟩
 have MD:∀b∈fp,bR Xc [] (upd H2 s2.sz (.lst [])) b:=λb hb=>by
  obtain⟨f1,f2,f3,f4,f5,f6⟩:=Kg b hb;have mem:=fm g0 (λp hp=>by cases hp);rw[<- hXc];refine⟨f1,?_,fo I3 f2 f3,.inl hb,λx c h=>f5 x c (mem (x,c) (OG h)),λp hp=>f6 p (by simpa [du]using hp)⟩;show b≠s3.sz;rw[Kf];exact y_ (Pp (hfl b hb))
 have Ki:tn 0 ({s3 with heap:=h1,toks:=s3.toks+([]:List (Str×SC)).length}:SE).heap:=T.keep _ _ _ Bc λb _ o e=>Kh b o (Ke b o e);have go:=jZ L9 (DQ qo) hx Bn T' bb.g ht bb.ts mY (Ba it) A4 MD Ki (by rw[eK];exact wk) hu Bb (by simpa using hl) λs' σ' H' Z' A' x' fr'=>by
  obtain⟨vs,hv,rr,qq⟩:=A'.ac;have base:=A'.I.base;obtain⟨mC,Kj,_⟩:=A'.I.loc;have hok:=A'.I.hok;have hos:=A'.I.os;have free:=A'.I.free;rw[eE]at Kj free;rw[eP,eW]at hok;rw[eK]at rr;have u1:Un (sY X.stack) fp H2 (upd H2 s2.sz (.lst [])) s2.heap s3.heap:=Un.laid Ke (h_ _) hf;have u2:Un (sY X.stack) fp (upd H2 s2.sz (.lst [])) H' s3.heap s'.heap:=by rw[<- hXc]at base;exact base
  have G8:s'.os=s2.os:=by rw[<- hXc]at hos;exact hos.trans (by rw[<- yk];rfl)
  have I':Inv X pins σ H' s':=I2.call' G8 (u1.trans u2) hok A'.I.bare λb hb=>⟨(qF b hb).2.2.2.1,(qF b hb).2.1,(qF b hb).2.2.2.2.1,(qF b hb).2.2.2.2.2⟩;exact MC s2.sz s3.sz H' Z' s' vs mC I' Kj (I3.fpOk (h_ _) free) x' hf hv A'.hz (by simpa using rr) (by simpa using qq)
 rw[eP,eW,eA,eE]at go;exact pY L9 rfl go (T.self _ 0 _ _ _ Ki go)
theorem dX(ht:km is t)(bq:X.calm=true)(hi:ID X tg iter fi)(g0:fN (λx=>X.env.cells.lookup x) scope.names []=some cl)(hN:Nc.map some=own.map some++caps.map (λj=>X.N[j]?))
  (hb:∀C s H ex pn a,FN (du X scope cl Nc C s H ex pn) QT a elt (⟨tg,iter,ifs,0⟩::rest) scope pos 0 tg ifs t c k)
  (eT:iz X scope caps=true:=by rfl) (bJ:scope.kind=.function:=by rfl) (hnc:∀y∈scope.names,y.2≠.cell:=by decide +kernel) (G9:∀x∈scope.names,x.2=.local->scope.names.lookup x.1=some .local:=by decide +kernel)
  (hs:∀x,foldedSetIterable iter X.env x=pure x:=by intro _;rfl) :
  PD X .nw (.ListComp elt (⟨tg,iter,ifs,0⟩::rest) scope pos) (bG fi is t c k own.length caps):=by
 intro pins s σ H Q I hT;obtain⟨env,B,Z,d,R,e,kk⟩:=hT;obtain⟨ds,xs,e1,hu,Bb,hl,rfl⟩:=mQ e;rw[eval_ListComp];refine Qz rfl hs (fU g0) bJ G9 ?_;refine br (hi pins s σ H (λJ H1=>∃Z1,Ex Z H Z1 H1/\Walk X.K Z1 ds J) I ⟨env,B,Z,ds,R,e1,λJ Z1 H1 x1 wk=>⟨Z1,x1,wk⟩⟩) λx s1 q1=>br q1 λJX s2 aG=>?_;obtain⟨it,fp,tn,J,H2,hit,I2,T,Bc,qF,Z2,x2,wk⟩:=aG;subst hit;refine oR EX ht bq g0 bJ hnc hN eT hb I2 (R.ext x2) T Bc qF wk hu Bb hl λa C H' Z' s' vs m I' ns fpC x' hf hv hz rr _=>?_;refine⟨m,ns,λh' hs'=>?_⟩;obtain⟨f1,f2,f3,f4,f5,f6⟩:=fpC;refine⟨.ref a,H',I'.turned (λb o hb e=>hs'.extBut b o hb e) f1 f2.symm.symm f4 f5 f6,rfl,kk _ Z' H' (x2.trans x') ⟨a,vs,xs,rfl,rfl,x2.h.free hf,hv,hz,rr⟩⟩
end
section
variable {P:SF}{w:SI}{A:SG}{E:Sj}
theorem HR(hne:l≠it):∀(n i:Nat)(s:SE)(Q:Sr->SE->Prop),s.heap.IsListIter it l i->s.heap.IsList l items->i+n<=items.size->
  (∀h',h'.IsListIter it l (i+n)->Heap.SameBut it s.heap h'->Q ((items.toList.drop i).take n) {s with heap:=h'})->wpAny (model P w) A (draw (.ref it) n) Q E s:=by
 intro n
 induction n with
 | zero=>intro i s Q hit hl hle hQ;exact d_ (show Q [] s from by simpa using hQ s.heap (by simpa using hit) (Heap.SameBut.refl ..))
 | succ n ih=>
  intro i s Q hit hl hle hQ;have hlt:i<items.size:=by lia
  refine(show wpAny (model P w) A (pyNext (.ref it) >>= _) Q E s from a_ (P8 hit hl (x:=items[i]) (by simp[hlt]) λh1 G' hs1=>?_));refine a_ (K_ (ih (i+1) _ _ G' (hl.extBut hs1.extBut hne) (by lia) λh2 Hc hs2=>d_ ?_));have q:=hQ h2 (by rw[show i+(n+1)=i+1+n by lia];exact Hc) (hs1.trans hs2);have hd:items.toList.drop i=items[i]::items.toList.drop (i+1):=by simp[PR,hlt]
  rw[hd,List.take_succ_cons]at q;exact q
theorem Cu(hh:A.handled=none)(hl:s.heap.IsList l items)(hQ:∀h',Heap.ExtBut s.sz s.heap h'->Q items.toList {s with heap:=h'}) :
  wpAny (model P w) A (unpackItems (.ref l) items.size none) Q E s:=by
 have hlt:l≠s.sz:=by obtain⟨o,ho,_⟩:=hl;exact y_ (r_ ho)
 unfold unpackItems;refine a_ ?_
 .unfold notIterableAtAll;refine a_ (Qb hl.typeIs PySem.slot_list_iter.lookup (d_ ?_));simp only[z_,OS];have hl1:(s.heap.push {cls:=.type "list_iterator",data:=.fields #[.ref l,rawInt 0]}).IsList l items:=by obtain⟨o,ho,r⟩:=hl;exact⟨o,e_ _ ho,r⟩
  refine a_ (K_ (Qi hl (a_ (K_ (HR hlt items.size 0 _ _ ⟨_,n_ _ rfl,rfl,rfl⟩ hl1 (by lia) λh1 G' hs1=>?_)))));have kT:((items.toList.drop 0).take items.size)=items.toList:=by rw[List.drop_zero];exact Q0 (by simp)
  rw[kT,l_ (by simp)];refine a_ (K_ (Q8 hh G' (hl1.extBut hs1.extBut hlt) (by simp) λh2 uN=>?_));simp only[Option.isSome_none,z_,OS];exact d_ (hQ h2 λb o hb e=>uN b o hb (hs1.extBut b o hb (e_ _ e)))
end
section
variable {X:Cx}{rg:Gr}
def Ls(K:SB)(n:Nat)(t:TGs):TG:=λv σ H Q=>∃a xs,v=.ref a/\cT K H a xs/\xs.length=n/\t xs σ H Q
theorem FB(hc:X.calm=true)(h:wz X es t)(hn:(assignEach es X.env).length=n:=by rfl)(hst:(assignEach es X.env).findIdx? (·.1)=none:=by rfl):PG X (.Tuple es k pos) (Ls X.K n t):=by
 intro pins s σ H v u Q I r hw;obtain⟨a,xs,e1,hq,hl,hw⟩:=hw;subst e1;cases r;obtain⟨aX,rv,pl,hz⟩:=I.list hq;have hlen:=rv.length;rw[RJ];refine a_ (Pf ?_);unfold unpack;rw[hst,hn,show n=aX.toArray.size by rw[p_];lia];refine a_ (K_ (Cu (I.ok.hd hc) pl.isList λh' hx=>?_));have I1:Inv X pins σ H {s with heap:=h'}:=I.kept λb o e=>hx b o (y_ (r_ e)) e;exact h pins _ σ H xs _ Q I1 (by simpa using rv) hw
def Nm(is:Sy):Ft:=λd env=>match d with
 | .lst ds=>ek is ds env
 | _=>none
theorem IE(hc:X.calm=true)(h:GR X es is)(hn:(assignEach es X.env).length=is.length:=by rfl)(hst:(assignEach es X.env).findIdx? (·.1)=none:=by rfl):GD X (.Tuple es k pos) (Nm is):=
 PG.imp (FB hc h hn hst) λv σ H Q aG=>by
  refine cN λ_ kq=>?_;obtain⟨env,B,Z,d,env',R,r,e,k⟩:=aG;cases d<;>try cases e
  rename_i ds;obtain⟨a,vs,e1,hq,rr⟩:=r;exact kq (⟨a,vs,e1,R.zh.seq hq,by rw[<- rr.len];exact ja e,env,B,Z,ds,env',R,rr,e,λσ'=>k σ' Z H (Ex.refl R.zh)⟩)
def GQ(is:Sy)(f:Fe):Fs:=λenv=>(f env).bind λd=>(Nm is d env).bind λe=>some (.nx e)
theorem D5(hc:X.calm=true)(he:PD X .cl e fe)(h:GR X es is)(hn:(assignEach es X.env).length=is.length:=by rfl)(hst:(assignEach es X.env).findIdx? (·.1)=none:=by rfl)
  (hs:swapsWithSole [.Tuple es k p2] e pos.line X.env=pure false:=by rfl) (hw:swappedStores [.Tuple es k p2] e X.env=pure none:=by rfl) (h1:(assignEach [.Tuple es k p2] X.env).map (·.2)=[assign (.Tuple es k p2) X.env]:=by rfl) :
  SD X rg (.Assign [.Tuple es k p2] e pos) (GQ is fe):=PS.imp (ug he (IE hc h hn hst) hs hw h1) λE σ H aG=>by
 refine cN λ_ kq=>?_;obtain⟨env,B,Z,o,R,e,k⟩:=aG;obtain⟨d,e1,e⟩:=b_.mp e;obtain⟨en,e2,e⟩:=b_.mp e;cases e;refine kq (⟨env,B,Z,d,R,e1,λv Z1 H1 x1 g1=>⟨env,B,Z1,d,en,R.ext x1,g1,e2,λσ' Z2 H2 x2 R'=>k σ' Z2 H2 ((x1.trans x2).part R.bh) R'⟩⟩)
variable {l r:SN}{fa fb:Fe}{ga gb:Gr}{pos p:Pos}
theorem Cy:ip X (binaryOp .Add) (λx y H Q=>∃l b xs zs,x=.ref l/\y=.ref b/\cT X.K H l xs/\cT X.K H b zs/\xs.length+zs.length<=sizeLine/\∀p,H p=none->Q (.ref p) (upd H p (.lst (xs++zs)))):=by
 intro pins s σ H x y v u Q I rx ry h;refine cN λ_ kq=>?_;obtain⟨l,b,xs,zs,rfl,rfl,hH,hB,hz,q⟩:=h;cases rx;cases ry;obtain⟨aX,r,⟨o,n,e,c1,c2,c3⟩,_⟩:=I.list hH;obtain⟨uQ,r2,⟨o2,n2,e2,d1,d2,d3⟩,_⟩:=I.list hB;obtain⟨cls,dd,dt,sl⟩:=o;obtain⟨G2,DE,dt2,Bq⟩:=o2;simp only at c1 c2 c3 d1 d2 d3;subst c1 c2 c3 d1 d2 d3;have h1:=r.length;have h2:=r2.length;have hsz:aX.toArray.size+uQ.toArray.size<=sizeLine:=by simp only[p_];lia
 refine kq (concat_meets ⟨_,e,rfl⟩ ⟨_,e2,rfl⟩ noFill_list_add seq_list_add PySem.F.slot_list_add PySem.F.entry_list_add (PySem.F.args_list_add_2 _ _) (list_addW l b aX.toArray uQ.toArray n n2 none none sl Bq hsz) ⟨e,e2,?_⟩)
 all_goals clear kq
 rw[show aX.toArray++uQ.toArray=(aX++uQ).toArray by simp];exact⟨.ref _,_,I.lnew (r.append r2) (by rw[t_];lia),rfl,q _ I.fresh⟩
theorem lE(ha:PD X ga l fa)(hb:PD X gb r fb):PD X .nw (.BinOp l .Add r pos) (ai ni fa fb):=nk Cy GX ha hb
end
section
variable {X:Cx}{rg:Gr}{elt:SN}{rest:Sq}{scope:SL}{pos spos py:Pos}{tg iter:SN}{ifs:Sw}{t:Ft}{c:Fb}{k:SS}{fi:Fi}{is caps:Sy}{cl:Sn}{Nc own:Su}{y:Str}
structure ED(X:Cx)(qv:Qv)(e:Expr)(f:Fe):Prop where
 ex:∀(y:Str)(py spos:Pos)(i:Nat),swapsWith e (some (.Name y py)) spos.line X.env=pure true->X.N.Nodup->X.N[i]?=some y->Loc X.env.scope y->(X.fn y=true\/X.env.scope.names.lookup y=some .local)->
  ∀(pins:List (Addr×Obj))(s:Shared)(σ:L2.St)(H:Hp)(E:Ends),Inv X pins σ H s->(∃env B Z d,Rl X.K B Z H env σ/\f env=some d/\∀v Z' H',Ex Z H Z' H'->Gd X.K Z' H H' .nw d v->(∃a xs vs,v=.ref a/\d=.lst xs/\H' a=some (.lst vs)/\qv a H H' xs vs)->E.nx (σ.set i (some v)) H')->
   wpAny (model X.prog X.w) X.A (exec (.Assign [.Name y py] e spos) X.env) (SP X pins E) X.xe s
abbrev Iz(X:Cx)(e:SN)(f:Fe):Prop:=ED X QT e f
theorem jS(ht:km is t)(bq:X.calm=true)(hi:ID X tg iter fi)(g0:fN (λx=>X.env.cells.lookup x) scope.names []=some cl)(hN:Nc.map some=own.map some++caps.map (λj=>X.N[j]?))
  (hb:∀C s H ex pn a,FN (du X scope cl Nc C s H ex pn) qv a elt (⟨tg,iter,ifs,0⟩::rest) scope pos 0 tg ifs t c k)
  (eT:iz X scope caps=true:=by rfl) (bJ:scope.kind=.function:=by rfl) (hnc:∀y∈scope.names,y.2≠.cell:=by decide +kernel) (G9:∀x∈scope.names,x.2=.local->scope.names.lookup x.1=some .local:=by decide +kernel)
  (hs:∀x,foldedSetIterable iter X.env x=pure x:=by intro _;rfl) (qo:KY qv:=by exact EX) :
  ED X qv (.ListComp elt (⟨tg,iter,ifs,0⟩::rest) scope pos) (bG fi is t c k own.length caps):=by
 refine⟨λy py spos j ME hNd hj hy hf pins s σ H E I hT=>?_⟩;obtain⟨env,B,Z,d,R,e,kk⟩:=hT;obtain⟨ds,xs,e1,hu,Bb,hl,rfl⟩:=mQ e;rw[exec_Assign_Name_used _ _ _ _ ME];refine a_ (Pf (a_ ?_));refine(show wpAny (model X.prog X.w) X.A (comprehension (.ListComp elt (⟨tg,iter,ifs,0⟩::rest) scope pos) scope X.env (firstIterPos (⟨tg,iter,ifs,0⟩::rest) pos) (newList []) false (eval iter X.env) (some (assign (.Name y py) X.env)) >>= λ_=>pure ()) _ _ s from ?_);refine a_ (br (Qz rfl hs (fU g0) bJ G9 ?_) λ_ s' hq=>d_ (d_ hq));refine br (hi pins s σ H (λJ H1=>∃Z1,Ex Z H Z1 H1/\Walk X.K Z1 ds J) I ⟨env,B,Z,ds,R,e1,λJ Z1 H1 x1 wk=>⟨Z1,x1,wk⟩⟩) λx s1 q1=>br q1 λJX s2 aG=>?_;obtain⟨it,fp,tn,J,H2,hit,I2,T,Bc,qF,Z2,x2,wk⟩:=aG;subst hit;refine oR qo ht bq g0 bJ hnc hN eT hb I2 (R.ext x2) T Bc qF wk hu Bb hl λa C H' Z' s' vs m I' ns fpC x' Mj hv hz rr qq=>?_;refine(show wpAny (model X.prog X.w) X.A (assign (.Name y py) X.env (.ref a)) _ _ s' from wpAny_assign_Name (ou I' hNd hj hy (show RelV (.ref a) (.ref a)from rfl) (λs2' I2' aG=>?_) hf));refine cN λ_ kq=>?_;obtain⟨b,hsb,Mq⟩:=aG;obtain⟨f1,f2,f3,f4,f5,f6⟩:=fpC;have hCb:C≠b:=λz=>by
  rcases Mq with z2 | z2
  .exact f2 (z.trans z2)
  .exact f5 y b z2 z.symm
 refine kq (⟨m,ns.sameBut hsb hCb,λh' hs'=>?_⟩)
 all_goals clear kq
 exact⟨_,H',I2'.turned (λb o hb e=>hs'.extBut b o hb e) f1 f2 f4 f5 f6,kk _ Z' H' (x2.trans x') ⟨a,vs,xs,rfl,rfl,x2.h.free Mj,hv,hz,rr⟩ ⟨a,xs,vs,rfl,rfl,hv,qo.base x2.h qq⟩⟩
variable {e:SN}{fe:Fe}
theorem jJ(i:Nat)(h:Iz X e fe)(hN:X.N.Nodup)(hi:X.N[i]?=some y:=by rfl)(hx:Loc X.env.scope y:=by first | exact Or.inl rfl | exact Or.inr rfl)(ME:swapsWith e (some (.Name y py)) spos.line X.env=pure true:=by rfl)
  (hf:X.fn y=true\/X.env.scope.names.lookup y=some .local:=by first | exact .inl rfl | exact .inr rfl | assumption):SD X rg (.Assign [.Name y py] e spos) (setF i fe):=λpins s σ H E I hw=>by
 refine cN λ_ kq=>?_;obtain⟨env,B,Z,o,R,e0,kk⟩:=hw;obtain⟨d,e1,e2⟩:=b_.mp e0;cases e2;refine kq (h.ex y py spos i ME hN hi hx hf pins s σ H E I ⟨env,B,Z,d,R,e1,λv Z' H' x g _=>?_⟩)
 all_goals clear kq
 obtain⟨a,vs,ds,rfl,rfl,h1,h2,h3,r⟩:=g;have s1:aK Z' (upd Z' a (.lst vs)):=dW h3;have x2:Ex Z H (upd Z' a (.lst vs)) H':=⟨x.h,x.z.trans s1,l9 x.zh h2,λb hb e=>by rw[aH (λz=>hb (by rw[z];exact h1))];exact x.fr b hb e,rQ x.nf KJ⟩;exact kk _ _ H' (x2.part R.bh) ((R.ext x2).setF i ⟨a,vs,rfl,cT.of ax,ar.mono s1 ds r⟩)
end
section
variable {X:Cx}{rg:Gr}
end
end Mi
namespace Mi
open PySem L2
theorem jN(n:Nat)(h:i.natAbs<=n)(hn:n<2 ^ 4096:=by decide +kernel):big i=true:=v_ (QL h hn)
theorem gG(h1:-1000000000<=i)(h2:i<=1000000000):big i=true:=jN 1000000000 (by omega)
theorem mT(h1:-1000000000<=i)(h2:i<=1000000000)(h3:-1000000000<=j)(h4:j<=1000000000):mulI (.int i) (.int j)=some (.int (i*j)):=by
 show(if(big i&&big j)=true then _ else _)=_;rw[gG h1 h2,gG h3 h4];rfl
theorem eJ(h:0<j):modI (.int i) (.int j)=some (.int (i%j)):=by
 show(if decide (0<j)=true then _ else _)=_;rw[v_ h];rfl
theorem jc(h:0<j)(h2:j<1073741824):fdivI (.int i) (.int j)=some (.int (i/j)):=by
 show(if decide (0<j/\j<1073741824)=true then _ else _)=_;rw[v_ (And.intro h h2)];rfl
theorem iY(h:big i=true)(h2:0<=j)(h3:j<=1000):powI (.int i) (.int j)=some (.int (i ^ j.toNat)):=by
 show(if(big i&&decide (0<=j/\j<=1000))=true then _ else _)=_;rw[h,v_ (And.intro h2 h3)];rfl
theorem Do(h:big i=true)(h2:big j=true):mulI (.int i) (.int j)=some (.int (i*j)):=by
 show(if(big i&&big j)=true then _ else _)=_;rw[h,h2];rfl
theorem eu(i j:Int):addI (.int i) (.int j)=some (.int (i+j)):=rfl
theorem vy(i j:Int):subI (.int i) (.int j)=some (.int (i-j)):=rfl
theorem Li(i j:Int):ltI (.int i) (.int j)=some (.bl (decide (i<j))):=rfl
theorem LG(i j:Int):leI (.int i) (.int j)=some (.bl (decide (i<=j))):=rfl
theorem ua(i j:Int):cy (.int i) (.int j)=some (.bl (i==j)):=rfl
theorem LC(i j:Int):vg (.int i) (.int j)=some (.bl !(i==j)):=rfl
theorem az(h1:f env=some x)(h2:g env=some y):ai b f g env=b x y:=by
 unfold ai;rw[h1,h2];rfl
theorem jD(h1:f env=some x):bc b f env=b x:=by
 unfold bc;rw[h1];rfl
theorem BC{x:Int}(n k:Nat)(h1:x.natAbs<=n):(x ^ k).natAbs<=n ^ k:=by
 rw[Int.natAbs_pow];exact Nat.pow_le_pow_left h1 k
theorem Dq{x y:Int}(n m:Nat)(h1:x.natAbs<=n)(h2:y.natAbs<=m):(x+y).natAbs<=n+m:=by omega
theorem mE(I:En->Prop):∀(ds:SV)(env:En),I env->(∀d∈ds,∀e,I e->∃e1,(t d e).bind body=some (.nx e1)/\I e1)->∃e2,dH t body ds env=some (.nx e2)/\I e2
 | [],env,h,_=>⟨env,rfl,h⟩
 | d::ds,env,h,hb=>by
  obtain⟨e1,h1,h2⟩:=hb d j_ env h;obtain⟨e2,h3,h4⟩:=mE I ds e1 h2 λd' hd=>hb d' (i_ _ hd);refine⟨e2,?_,h4⟩;obtain⟨e0,h5,h6⟩:=b_.mp h1;show(t d env).bind (λe1=>(body e1).bind _)=_;rw[h5];show(body e0).bind _=_;rw[h6];exact h3
theorem df(I:Nat->En->Prop):∀(ds:SV)(n:Nat)(env:En),I n env->(∀i d e,ds[i]?=some d->I (n+i) e->∃e1,(t d e).bind body=some (.nx e1)/\I (n+i+1) e1)->∃e2,dH t body ds env=some (.nx e2)/\I (n+ds.length) e2
 | [],n,env,h,_=>⟨env,rfl,h⟩
 | d::ds,n,env,h,hb=>by
  obtain⟨e1,h1,h2⟩:=hb 0 d env rfl h;obtain⟨e2,h3,h4⟩:=df I ds (n+1) e1 h2 λi d' e hd he=>by
   have:=hb (i+1) d' e (by simpa using hd) (by rw[show n+(i+1)=n+1+i by omega];exact he);rw[show n+1+i+1=n+(i+1)+1 by omega];exact this
  refine⟨e2,?_,by rw[show n+(d::ds).length=n+1+ds.length by simp;omega];exact h4⟩;obtain⟨e0,h5,h6⟩:=b_.mp h1;show(t d env).bind (λe1=>(body e1).bind _)=_;rw[h5];show(body e0).bind _=_;rw[h6];exact h3
theorem dh{α:Type}{xs:List α}{k:Nat}{x:α}(h:xs[k]?=some x):L2.atI xs (k:Int)=some x:=by
 have hk:=(o_.mp h).1;unfold L2.atI L2.vU;rw[k_ (by omega),k_ (by omega)];simpa using h
theorem vL(h:(aI 0 n)[i]?=some d):d=.int i/\i<n:=by
 unfold aI at h;rw[m_]at h;cases e:(List.range n)[i]? with
 | none=>rw[e]at h;cases h
 | some j=>
  rw[e]at h;have hi:=(o_.mp e).1;rw[Pi]at hi;rw[P2 hi]at e;cases e;cases h;exact⟨by simp,hi⟩
end Mi
namespace Mi
theorem F9(d:D)(env:En):bf (.F d::env) 0=some d:=rfl
theorem FU(s:Slot)(env:En)(i:Nat):bf (s::env) (i+1)=bf env i:=rfl
theorem ky(h:env[i]?=some (.O (.L ds)))(hf:f env=some d)(hl:ds.length<16000000):gE i f env=some (.nx (env.set i (.O (.L (ds++[d]))))):=by
 unfold gE;rw[h];show(f env).bind _=_;rw[hf];show(if ds.length<16000000 then _ else _)=_;rw[k_ hl]
theorem ak(h:f env=some (.nx e)):aD f g env=g e:=by unfold aD;rw[h];rfl
theorem aS(h:f env=some d):setF i f env=some (.nx (env.set i (.F d))):=by unfold setF;rw[h];rfl
theorem bu(h:f env=some d):bt f env=some (.rt d):=by unfold bt;rw[h];rfl
theorem cf(h:t env=some true):gu t f g env=f env:=by unfold gu;rw[h];rfl
theorem be(h:t env=some false):gu t f g env=g env:=by unfold gu;rw[h];rfl
theorem cF(h:fi env=some ds):dD fi t b env=dH t b ds env:=by unfold dD;rw[h];rfl
theorem dO(h:f env=some (.bl b)):fB f env=some b:=by unfold fB;rw[h];rfl
theorem Jw(h:f env=some true):AC f g env=some true:=by unfold AC;rw[h];rfl
theorem Eo(h:f env=some false):AC f g env=g env:=by unfold AC;rw[h];rfl
theorem Iv(h:f env=some b):xr f env=some !b:=by unfold xr;rw[h];rfl
theorem call_v{fs:Fes}{m:SV->SW}{env:En}{ds:SV}(h:fs env=some ds):(fs env).bind m=m ds:=by rw[h];rfl
theorem af(h:f env=some d)(h2:fs env=some ds):aa f fs env=some (d::ds):=by unfold aa;rw[h,h2];rfl
theorem aE:fNil env=some []:=rfl
theorem dt[Decidable p](h:p):some (D.bl (decide p))=some (.bl true):=by rw[v_ h]
theorem aV(h:f (aT n ds)=some (.rt d)):bM f n ds=some d:=by unfold bM;rw[h];rfl
theorem dB(h:f env=some (.int (n:Int)))(h2:n<=1000000000):dM f env=some (aI 0 n):=by
 have hr:z9 (n:Int)=true:=by
  simp only[z9,w_];omega
 unfold dM;rw[h,M_];dsimp only;rw[k_ hr,OC]
theorem gA(h:f env=some (.lst ds)):bc bY f env=some (.int (ds.length:Int)):=by unfold bc;rw[h];rfl
theorem ez(h:f env=some (.lst ds))(h2:g env=some (.int i))(h3:L2.atI ds i=some d):ai ay f g env=some d:=(az h h2).trans h3
theorem bO(h:f env=some (.tup ds))(h2:g env=some (.int i))(h3:L2.atI ds i=some d):ai ay f g env=some d:=(az h h2).trans h3
theorem D9(h:f env=some (.lst ds))(h2:ek is ds env=some e):GQ is f env=some (.nx e):=by
 unfold GQ;rw[h];show(ek is ds env).bind _=_;rw[h2];rfl
theorem qS(h:f env=some (.tup ds))(h2:ek is ds env=some e):BY is f env=some (.nx e):=by
 unfold BY;rw[h];show(ek is ds env).bind _=_;rw[h2];rfl
theorem cm(h:f env=some (.lst ds)):ie f env=some ds:=by unfold ie;rw[h];rfl
theorem Ew(h:f env=some (.tup ds)):Iq f env=some ds:=by unfold Iq;rw[h];rfl
theorem ec(h:f env=some (.rt d)):aD f g env=some (.rt d):=by unfold aD;rw[h];rfl
theorem El(h:i<=j):leI (.int i) (.int j)=some (.bl true):=(LG i j).trans (dt h)
theorem oD(ns:SV)(k:Nat):cutD ns none (some (k:Int))=ns.take k:=by
 unfold cutD;rw[HT.yt,HT.vB,List.drop_zero,Nat.sub_zero]
 by_cases h:ns.length<=k
 .rw[Nat.min_eq_right h,O3,Q0 h]
 .rw[Nat.min_eq_left (by omega)]
end Mi
namespace Mi
open PySem PySem.Spec PyProof.Rows L2
def xT:SV->Option (List Bool)
 | []=>some []
 | .bl b::r=>(xT r).bind λbs=>some (b::bs)
 | _=>none
theorem vi:∀{ds:SV}{bs:List Bool},xT ds=some bs->ds=bs.map .bl
 | [],bs,h=>by cases h;rfl
 | d::r,bs,h=>by
  cases d<;>try cases h
  rename_i b;obtain⟨cs,h1,h2⟩:=b_.mp h;cases h2;rw[vi h1];rfl
def CB:D->SW
 | .lst ds=>(xT ds).bind λbs=>some (.bl (bs.all id))
 | _=>none
theorem ar.bls{K:Fg}{H:Hp}:∀{bs:List Bool}{vs:SX},ar K H (bs.map .bl) vs->vs=bs.map .bl
 | [],vs,h=>h
 | b::bs,vs,⟨v,r,e,h1,h2⟩=>by subst e;cases(show v=V.bl b from h1);rw[ar.bls h2];rfl
theorem av.bls:∀{bs:List Bool}{us:Sr},av (bs.map V.bl) us->us=bs.map .bool
 | [],us,h=>by cases h;rfl
 | b::bs,us,h=>by
  cases h with
  | cons p q=>cases(show _=Value.bool b from p);rw[av.bls q];rfl
theorem Cb(bs:List Bool):(List.range bs.length).all (λi=>bs.getD i false)=bs.all id:=by
 rw[OM];simp only[I_,Ov,id_eq];constructor
 .intro h b hb;obtain⟨i,hi,rfl⟩:=List.getElem_of_mem hb;simpa [List.getD,hi]using h i hi
 .intro h i hi;simpa [List.getD,hi]using h _ (OL hi)
section
variable {X:Cx}{l r:SN}{fa fb:Fe}{ga gb:Gr}{pos p p2 p3 p4:Pos}
theorem Ar{A:SG}{pins:Sk}{σ:L2.St}{H:Hp}{s:SE}{a:SM}{bs:List Bool}{E:Sj}{Q:Sj}{g:List Bool->Bool}{r2:Sy->(Nat->Bool)->Bool}
  (hh:A.handled=none) (I:Inv X pins σ H s) (hq:cT X.K H a (bs.map V.bl)) (hg:∀n,n=bs.length->r2 (List.range n) (λi=>bs.getD i false)=g bs) (q:∀s',Inv X pins σ H s'->Q (.bool (g bs)) s') :
  wpAny (model X.prog X.w) A.in1 (pyIter (.ref a)) (λit s₂=>∃I fp wr n P St tr,it=.ref I/\Walks X.prog X.w A.in1 I fp wr n P St/\St 0 s₂.heap/\TruthOf X.prog X.w A.in1 P tr/\
   ∀h' tk,(∀b o,b∉wr->s₂.heap.get? b=some o->h'.get? b=some o)->Q (.bool (r2 (List.range n) tr)) {s₂ with heap:=h',toks:=tk}) E s:=by
 obtain⟨aX,rv,pl,hz⟩:=I.list hq;cases av.bls rv;have hlt:a<s.sz:=by obtain⟨o,ho,_⟩:=pl.isList;exact r_ ho
 refine Qi pl.isList ?_;refine⟨s.sz,_,_,_,_,_,λi=>bs.getD i false,rfl,Walks.list (show A.in1.handled=none from hh) s.sz a (y_ hlt) (bs.map Value.bool).toArray,⟨⟨_,n_ _ rfl,rfl,rfl⟩,pl.isList.push _⟩,λi v s1 Q1 E1 hv hQ=>?_,λh' tk hk=>?_⟩
 .have tu:(bs.map Value.bool)[i]?=some v:=by simpa using hv
  rw[m_]at tu;cases e:bs[i]? with
  | none=>rw[e]at tu;cases tu
  | some b=>
   rw[e]at tu;cases tu;have hb:bs.getD i false=b:=by simp[List.getD,e]
   have hQ:Q1 (bs.getD i false) s1:=hQ;rw[hb]at hQ;exact Pg hQ
 .rw[hg _ (by simp)];refine q _ (I.kept λb o e=>hk b o (λhb=>?_) (e_ _ e));have:b=s.sz:=by simpa using hb
  exact y_ (r_ e) this
theorem wJ(hc:X.calm=true):dq X (.builtin "all") (λxs H Q=>∃(a:SM)(bs:List Bool),xs=[.ref a]/\cT X.K H a (bs.map V.bl)/\Q (.bl (bs.all id)) H):=by
 intro pins s σ H xs us Q I rs h;obtain⟨a,bs,rfl,hq,q⟩:=h;obtain⟨u,rfl,rx⟩:=vals1 rs;cases rx;exact call_all_walk (Ar (g:=λbs=>bs.all id) (I.ok.hd hc) I hq (λn e=>by subst e;exact Cb bs) λs' I'=>⟨.bl _,H,I',rfl,q⟩)
theorem Jv{K:Fg}:gN K .cl CB (λxs H Q=>∃(a:SM)(bs:List Bool),xs=[.ref a]/\cT K H a (bs.map V.bl)/\Q (.bl (bs.all id)) H):=λ{Z H x dx d Q} s h e k=>by
 cases dx<;>try cases e
 obtain⟨bs,h1,h2⟩:=b_.mp e;cases h2;cases vi h1;obtain⟨a,vs,rfl,q,rr⟩:=h.lst s;cases ar.bls rr;exact⟨a,bs,rfl,q,k _ Z H (Ex.refl s) rfl⟩
theorem xh:bootBuiltins "all"=some (.builtin "all"):=by decide +kernel
theorem Jt(hm:X.mg "all"=none)(bq:X.calm=true)(ha:PD X ga l fa)(hg:Gl X "all":=by rfl)(he:starEach [l] X.env=[(false,eval l X.env)]:=by rfl):PD X .cl (.Call (.Name "all" p) [l] [] pos) (bc CB fa):=
 r6 (wJ bq) Jv xh hm ha (by decide) (by decide) hg he
theorem vN:∀(l:List α),(∀x∈l,f x=some (g x))->l.filterMap f=l.map g
 | [],_=>rfl
 | a::l,h=>by
  rw[OK,h a j_,G_];exact OZ _ (vN l λx hx=>h x (i_ _ hx))
theorem zw(aX:Sr):slicePick aX.toArray none none (some (-1))=aX.reverse.toArray:=by
 unfold slicePick sliceBounds sliceRange;simp only[Option.getD_some,p_,show ¬((-1:Int)>0) by decide,OS];congr 1;have hc:(if(aX.length:Int)-1 > -1 then((aX.length:Int)-1 - -1 - -1-1)/(- -1)else 0).toNat=aX.length:=by
  split
  .rw[show(- -1:Int)=1 by decide,Int.ediv_one];lia
  .lia
 rw[hc];apply Q2;intro i;rw[RB];have key:(List.range aX.length).filterMap ((λx=>aX.toArray[x]?) ∘ λ(k:Nat)=>((aX.length:Int)-1+-1*(k:Int)).toNat)=(List.range aX.length).map λk=>aX.getD (aX.length-1-k) .none:=by
  refine vN _ λk hk=>?_;have hk':k<aX.length:=by simpa using hk
  simp only[Function.comp];rw[show((aX.length:Int)-1+-1*(k:Int)).toNat=aX.length-1-k by lia];simp[List.getD,show aX.length-1-k<aX.length by lia]
 rw[key,m_]
 by_cases hi:i<aX.length
 .rw[P2 hi,List.getElem?_reverse hi];simp[List.getD,show aX.length-1-i<aX.length by lia]
 .rw[Ou (by simpa using hi),Ou (by simpa using hi)];rfl
def zZ:D->SW
 | .lst ds=>some (.lst ds.reverse)
 | _=>none
theorem av.rev:∀{xs:SX}{us:Sr},av xs us->av xs.reverse us.reverse
 | [],us,h=>by cases h;exact .nil
 | x::xs,us,h=>by
  cases h with
  | cons p q=>rw[RN,RN];exact(av.rev q).append (.cons p .nil)
def L6(K:Fg)(te:TE):TE:=λσ H Q=>te σ H λx H1=>∃a xs,x=.ref a/\cT K H1 a xs/\∀q,H1 q=none->Q (.ref q) (upd H1 q (.lst xs.reverse))
theorem EK{e:SN}{te:TE}{i j:Int}{k:Nat}(he:PE X e te):PE X (.Subscript e (.Slice none none (some (.UnaryOp .USub (.Constant (.int 1) k p3) p4)) p2) pos) (L6 X.K te):=by
 intro pins s σ H Q I h;refine Subscript_ (br (he pins s σ H _ I h) λv s1 aG=>?_);obtain⟨x,H1,I1,r1,q1⟩:=aG;obtain⟨a,xs,e1,hx,q⟩:=q1;subst e1;cases r1;refine wpAny_Slice ?_;rw[evalPart_none];refine d_ (d_ ?_);refine br (vC (D4 zS AI) pins s1 σ H1 (λo H2=>o=some (-1)/\H2=H1) I1 ⟨_,rfl,_,rfl,rfl,rfl⟩) λKk s2 aG=>?_;obtain⟨o,H2,I2,ps,e2,e3⟩:=aG;subst e2;subst e3;have I4:Inv X pins σ H2 {s2 with heap:=s2.heap.push {cls:=.type "slice",data:=.fields #[.none,.none,Kk]}}:=I2.kept λb ob z=>e_ _ z;obtain⟨aX,rv,ht,hz⟩:=I4.list hx;have hlen:=rv.length;show wpAny (model X.prog X.w) X.A (subscriptTail e (.Slice none none (some (.UnaryOp .USub (.Constant (.int 1) k p3) p4)) p2) (.ref a) (.ref s2.sz)) (EP X pins σ Q) X.xe {s2 with heap:=s2.heap.push {cls:=.type "slice",data:=.fields #[.none,.none,Kk]}};refine tail_any ht.isList.typeIs QV.lookup ?_ (by with_unfolding_all rfl);refine Qy ht.isList (Heap.IsSliceOf.new ..) .none .none ps (by simp) ?_ (by rw[p_]<;>lia);rw[zw];exact⟨.ref _,_,I4.laid (o:=.lst xs.reverse) (λb ob z=>e_ _ z) (h_ _) ⟨by rw[List.length_reverse];exact hz,_,0,av.rev rv,n_ _ rfl⟩,rfl,q _ (I4.hok.fresh (h_ _))⟩
theorem IY{k:Nat}(ha:PD X ga l fa):PD X .nw (.Subscript l (.Slice none none (some (.UnaryOp .USub (.Constant (.int 1) k p3) p4)) p2) pos) (bc zZ fa):=PE.imp (EK (i:=0) (j:=0) ha) λσ H Q aG=>by
 obtain⟨env,B,Z,d,R,e,kk⟩:=aG;obtain⟨x,h1,h2⟩:=b_.mp e;cases x<;>try cases h2
 rename_i ds;refine⟨env,B,Z,_,R,h1,λv Z1 H1 x1 g1=>?_⟩;obtain⟨a,vs,rfl,q,rr⟩:=(show Gd X.K Z1 H1 H1 .pk (.lst ds) v from g1.pk).lst x1.zh;exact⟨a,vs,rfl,q,λp hp=>kk _ Z1 _ (x1.trans (Ex.newL x1.zh hp)) ⟨p,_,_,rfl,rfl,x1.h.free hp,ax,x1.zh.free hp,ar.rev rr⟩⟩
end
def insI(x:Int):Sz->Sz
 | []=>[x]
 | y::r=>if x<=y then x::y::r else y::insI x r
def j8:Sz->Sz
 | []=>[]
 | x::r=>insI x (j8 r)
theorem insI_perm(x:Int):∀l,(insI x l).Perm (x::l)
 | []=>.refl _
 | y::r=>by
  unfold insI
  split
  .exact .refl _
  .exact((insI_perm x r).cons y).trans (List.Perm.swap x y r)
theorem hW:∀l,(j8 l).Perm l
 | []=>.refl _
 | x::r=>(insI_perm x _).trans ((hW r).cons x)
theorem vO(x:Int):∀{l:Sz},l.Pairwise (·<=·)->(insI x l).Pairwise (·<=·)
 | [],_=>by simp[insI]
 | y::r,h=>by
  obtain⟨h1,h2⟩:=ON.mp h;unfold insI
  split
  .rename_i hx;exact ON.mpr ⟨λz hz=>by
    rcases s_.mp hz with rfl | hz
    .exact hx
    .exact QX hx (h1 z hz),h⟩
  .rename_i hx;refine ON.mpr ⟨λz hz=>?_,vO x h2⟩;rcases s_.mp ((insI_perm x r).mem_iff.mp hz)with rfl | hz
   .lia
   .exact h1 z hz
theorem qc:∀l,(j8 l).Pairwise (·<=·)
 | []=>.nil
 | x::r=>vO x (qc r)
theorem oV:∀{l m:Sz},l.Perm m->l.Pairwise (·<=·)->m.Pairwise (·<=·)->l=m
 | [],m,p,_,_=>(List.Perm.nil_eq p)
 | x::l,[],p,_,_=>absurd p.symm (by intro h;exact absurd (List.Perm.nil_eq h) (by simp))
 | x::l,y::m,p,h1,h2=>by
  obtain⟨a1,a2⟩:=ON.mp h1;obtain⟨b1,b2⟩:=ON.mp h2;have e:x=y:=by
   have hx:x∈y::m:=p.mem_iff.mp j_;have hy:y∈x::l:=p.mem_iff.mpr j_;rcases s_.mp hx with e | hx
   .exact e
   .rcases s_.mp hy with e | hy
    .exact e.symm
    .have:=b1 x hx;have:=a1 y hy;lia
  subst e;rw[oV ((List.perm_cons x).mp p) a2 b2]
theorem Dk(p:m.Perm l)(h:m.Pairwise (·<=·)):m=j8 l:=oV (p.trans (hW l).symm) h (qc l)
theorem rD(l:Sz):(j8 l).length=l.length:=(hW l).length_eq
section
variable {prog:SF}{w:SI}{A:SG}{E:Sj}{s:SE}
theorem qV(ho:s.heap.get? a=some o)(hc:o.cls=.type "list"\/o.cls=.type "tuple")(hd:o.data=.seq vs.toArray n)
    (q:Q vs {s with heap:=(s.heap.push (seqObj "list" #[] 0)).update s.sz (Obj.mapSeq (·++vs.toArray))}) (hz:vs.length<=sizeLine):wpAny (model prog w) A (collect (.ref a)) Q E s:=by
  unfold collect;refine a_ (wpAny_runValue (QF PyProof.Rows.entry_proto_collect' (show wpAny _ _ (newList [] >>= λz=>again (.builtin "list.__iadd__" ⟨[z,.ref a],[]⟩)) _ _ s from
    a_ (QA (d_ ⟨Code.quiet_builtin _ (by decide +kernel),QF PyProof.Rows.entry_list_iadd' ?_⟩)))))
  have e1:(s.heap.push (seqObj "list" #[] 0)).get? a=some o:=e_ _ ho;have e2:(s.heap.push (seqObj "list" #[] 0)).get? s.sz=some (seqObj "list" #[] 0):=n_ _ rfl;obtain⟨T,hT,ht⟩:∃T:String,o.cls=.type T/\(Value.type T==Value.type "list"||Value.type T==Value.type "tuple")=true:=by
    rcases hc with h | h
    . exact⟨"list",h,rfl⟩
    . exact⟨"tuple",h,rfl⟩
  show wpAny _ _ (Builtin.List.listExtendWith (.ref s.sz) (.ref a) (.ref s.sz)) _ _ {s with heap:=s.heap.push (seqObj "list" #[] 0)};unfold Builtin.List.listExtendWith;refine a_ (wpAny_typeOf ⟨o,e1,hT⟩ ?_);rw[k_ (by rw[Bool.or_assoc,ht,Bool.or_true])];refine a_ (listItems_at e1 hd (a_ (listItems_at e2 rfl ?_)));rw[l_ (by simp)];refine a_ (listUpdate_at e2 rfl (d_ ?_) (Py _) (by simp only[Array.size_append,p_,Pr];lia));show wpAny (model prog w) A (load s.sz >>= λo=>match o.data with | .seq xs _=>pure xs.toList | _=>unsupported "internal:collect") Q E {s with heap:=(s.heap.push (seqObj "list" #[] 0)).update s.sz (Obj.mapSeq (·++vs.toArray))};refine a_ (wpAny_load (Rp e2 _) ?_);show wpAny _ _ (pure ((#[]:Array SC)++vs.toArray).toList) Q E _;rw[show((#[]:Array SC)++vs.toArray).toList=vs by simp];exact d_ q
theorem sortedS(ho:s.heap.get? a=some o)(hc:o.cls=.type "list"\/o.cls=.type "tuple")(hd:o.data=.seq vs.toArray n)(hI:IntsAre vs ns)(hz:vs.length<64)
  (q:∀(out:Array SC)(tz:Sz),IntsAre out.toList tz->tz.Perm ns->tz.Pairwise (·<=·)->Q (.ref (s.sz+1)) {s with heap:=sortedAll s.heap vs out}):wpAny (model prog w) A (call (.builtin "sorted") [.ref a]) Q E s:=by
 refine Qq QB plain_sorted entry_sorted (args_sorted1 _) ?_;unfold Builtin.«sorted»;refine a_ (d_ (a_ (qV ho hc hd (a_ (QA ?_)) (by have:=OJ;lia))));have z1:((s.heap.push (seqObj "list" #[] 0)).update s.sz (Obj.mapSeq (·++vs.toArray))).objs.size=s.sz+1:=by rw[Q_,size_push']
 have z2:(((s.heap.push (seqObj "list" #[] 0)).update s.sz (Obj.mapSeq (·++vs.toArray))).push (seqObj "list" vs.toArray 0)).get? (s.sz+1)=some (seqObj "list" vs.toArray 0):=by
  rw[<- z1];exact n_ _ rfl
 show wpAny _ _ _ _ _ {s with heap:=((s.heap.push (seqObj "list" #[] 0)).update s.sz (Obj.mapSeq (·++vs.toArray))).push (seqObj "list" vs.toArray 0)};rw[z1];exact a_ (K_ (OE slot_list_sort ⟨_,z2,rfl⟩ entry_list_sort (list_sort_tree z2 hI hz λout tz a1 a2 a3=>⟨_,rfl,d_ ⟨_,rfl,q out tz a1 a2 a3⟩⟩) (args_list_sort _)))
end
def ju:SV->Option Sz
 | []=>some []
 | .int i::r=>(ju r).bind λbs=>some (i::bs)
 | _=>none
theorem jl:∀{ds:SV}{bs:Sz},ju ds=some bs->ds=bs.map .int
 | [],bs,h=>by cases h;rfl
 | d::r,bs,h=>by
  cases d<;>try cases h
  obtain⟨cs,h1,h2⟩:=b_.mp h;cases h2;rw[jl h1];rfl
theorem jX:∀(ns:Sz),ju (ns.map .int)=some ns
 | []=>rfl
 | n::ns=>by show(ju (ns.map .int)).bind _=_;rw[jX ns];rfl
theorem ar.intsV{K:Fg}{H:Hp}:∀{bs:Sz}{vs:SX},ar K H (bs.map .int) vs->vs=bs.map .int
 | [],vs,h=>h
 | b::bs,vs,⟨v,r,e,h1,h2⟩=>by subst e;cases(show v=V.int b from h1);rw[ar.intsV h2];rfl
theorem av.ints:∀{bs:Sz}{us:Sr},av (bs.map V.int) us->IntsAre us bs
 | [],us,h=>by cases h;exact .nil
 | b::bs,us,h=>by
  cases h with
  | cons p q=>obtain⟨t,rfl⟩:=(show ∃t,_=Value.int b t from p);exact .cons b t (av.ints q)
theorem av.ofInts:∀{bs:Sz}{us:Sr},IntsAre us bs->av (bs.map V.int) us
 | [],us,h=>by cases h;exact .nil
 | b::bs,us,h=>by
  cases h with
  | cons n t q=>exact .cons ⟨t,rfl⟩ (av.ofInts q)
def sortI:D->SW
 | .lst ds=>(ju ds).bind λns=>if ns.length<64 then some (.lst ((j8 ns).map .int))else none
 | .tup ds=>(ju ds).bind λns=>if ns.length<64 then some (.lst ((j8 ns).map .int))else none
 | _=>none
section
variable {X:Cx}{l r:SN}{fa fb:Fe}{ga gb:Gr}{pos p:Pos}
theorem qx:dq X (.builtin "sorted") (λxs H Q=>∃(a:SM)(ns:Sz),xs=[.ref a]/\(cT X.K H a (ns.map V.int)\/cH X.K H a (ns.map V.int))/\ns.length<64/\∀q,H q=none->Q (.ref q) (upd H q (.lst ((j8 ns).map V.int)))):=by
 intro pins s σ H xs us Q I rs h;obtain⟨a,ns,rfl,hq,hl,q⟩:=h;obtain⟨u,rfl,rx⟩:=vals1 rs;cases rx;have fin:∀(aX:Sr)(out:Array SC)(tz:Sz),IntsAre out.toList tz->tz.Perm ns->tz.Pairwise (·<=·)->EP X pins σ Q (.ref (s.sz+1)) {s with heap:=sortedAll s.heap aX out}:=λaX out tz a1 a2 a3=>by
  cases Dk a2 a3;obtain⟨e,he⟩:=sortedAll_at s.heap aX out;refine⟨.ref _,_,I.laid (o:=.lst ((j8 ns).map V.int)) (λb o z=>sortedAll_old z) (QP _) ⟨?_,out.toList,e,av.ofInts a1,by simpa using he⟩,rfl,q _ (I.hok.fresh (QP _))⟩;have:=OJ;rw[c_,rD];lia
 rcases hq with hq | hq
 .obtain⟨aX,rv,pl,hz⟩:=I.list hq;have hlen:=rv.length;obtain⟨o,ho,hc,n,hd⟩:=pl.isList;exact sortedS ho (.inl hc) hd (av.ints rv) (by rw[<- hlen,c_];exact hl) (fin aX)
 .obtain⟨aX,rv,pl,hz⟩:=I.tuple hq;have hlen:=rv.length;obtain⟨o,ho,hc,n,hd⟩:=pl;exact sortedS ho (.inr hc) hd (av.ints rv) (by rw[<- hlen,c_];exact hl) (fin aX)
theorem yo{K:Fg}:gN K .nw sortI (λxs H Q=>∃(a:SM)(ns:Sz),xs=[.ref a]/\(cT K H a (ns.map V.int)\/cH K H a (ns.map V.int))/\ns.length<64/\∀q,H q=none->Q (.ref q) (upd H q (.lst ((j8 ns).map V.int)))):=λ{Z H x dx d Q} s h e k=>by
 cases dx<;>try cases e
 .obtain⟨ns,h1,h2⟩:=b_.mp e;obtain⟨hl,rfl⟩:=ma h2;cases jl h1;obtain⟨a,vs,rfl,q,rr⟩:=h.tup s;cases ar.intsV rr;exact⟨a,ns,rfl,.inr q,hl,λp hp=>k _ Z _ (Ex.newL s hp) ⟨p,_,_,rfl,rfl,hp,ax,s.free hp,ar.ints _⟩⟩
 .obtain⟨ns,h1,h2⟩:=b_.mp e;obtain⟨hl,rfl⟩:=ma h2;cases jl h1;obtain⟨a,vs,rfl,q,rr⟩:=h.lst s;cases ar.intsV rr;exact⟨a,ns,rfl,.inl q,hl,λp hp=>k _ Z _ (Ex.newL s hp) ⟨p,_,_,rfl,rfl,hp,ax,s.free hp,ar.ints _⟩⟩
theorem z7(hm:X.mg "sorted"=none)(ha:PD X ga l fa)(hg:Gl X "sorted":=by rfl)(he:starEach [l] X.env=[(false,eval l X.env)]:=by rfl):PD X .nw (.Call (.Name "sorted" p) [l] [] pos) (bc sortI fa):=
 r6 qx yo QC hm ha (by decide) (by decide) hg he
end
structure Src(prog:Program)(w:World)(i l:Addr)(it:Nat->Heap->Prop)(at_:List Value->Heap->Prop):Prop where
 nxt:∀{A:Around}{E:Value->Shared->Prop}{s:Shared}{k:Nat}{xs:List Value}{x:Value}{Q:Value->Shared->Prop},it k s.heap->at_ xs s.heap->xs[k]?=some x->(∀h',it (k+1) h'->Heap.SameBut i s.heap h'->Q x {s with heap:=h'})->
  wpAny (model prog w) A (Builtin.SmallTypes.nextOf (.ref i)) Q E s
 fin:∀{A:Around}{E:Value->Shared->Prop}{s:Shared}{k:Nat}{xs:List Value}{Q:Value->Shared->Prop},A.handled=none->it k s.heap->at_ xs s.heap->xs[k]?=none->
  (∀h' e,Heap.ExtBut i s.heap h'->(∃o,h'.get? e=some o/\o.cls=.type "StopIteration")->E (.ref e) {s with heap:=h'})->wpAny (model prog w) A (Builtin.SmallTypes.nextOf (.ref i)) Q E s
 itx:∀{k:Nat}{h h':Heap},it k h->(∀o,h.get? i=some o->h'.get? i=some o)->it k h'
 atx:∀{xs:List Value}{h h':Heap},at_ xs h->(∀o,h.get? l=some o->h'.get? l=some o)->at_ xs h'
 obj:∀{k:Nat}{h:Heap},it k h->∃o,h.get? i=some o/\∀v,o.data≠.cell v
 lt:∀{xs:List Value}{h:Heap},at_ xs h->∃o,h.get? l=some o
section
variable {prog:SF}{w:SI}
theorem ub(hit:s.heap.IsTupleIter i t k)(ht:s.heap.IsTuple t items)(hx:items[k]?=some x)
  (hQ:∀h',h'.IsTupleIter i t (k+1)->Heap.SameBut i s.heap h'->Q x {s with heap:=h'}):wpAny (model prog w) A (Builtin.SmallTypes.nextOf (.ref i)) Q E s:=by
 obtain⟨o,ho,hc,hd⟩:=id hit;obtain⟨ol,ye,_,nl,GZ⟩:=ht;unfold Builtin.SmallTypes.nextOf;refine a_ (OP hit.typeIs PJ (OE PJ hit.typeIs F.entry_tuple_iterator_next ?_ (F.args_tuple_iterator_next_1 _)));show wpAny _ _ (field (.ref i) 0 >>= _) _ _ s;refine a_ (Pj ho hd rfl (show wpAny _ _ (if(Value.ref t==Value.none)=true then _ else _) _ _ s from ?_));rw[l_ (show ¬((Value.ref t==Value.none)=true)from F_)];refine(show wpAny _ _ (field (.ref i) 1 >>= _) _ _ s from a_ (Pj ho hd rfl (show wpAny _ _ (seqItems? (.ref t) >>= _) _ _ s from a_ (PH ye GZ ?_))));simp only[OC,hx];refine a_ (Q3 ho hd (by simp) (d_ ⟨x,rfl,d_ (hQ _ ?_ (OT ..))⟩));exact⟨_,Qg _ ho (Obj.isFreed_of_fields (QM hd _)),(Obj.cls_mapFields ..).trans hc,by rw[QM hd];simp[rawInt]⟩
theorem xt(hh:A.handled=none)(hit:s.heap.IsTupleIter i t k)(ht:s.heap.IsTuple t items)(hx:items[k]?=none)
  (hE:∀h' e,Heap.ExtBut i s.heap h'->(∃o,h'.get? e=some o/\o.cls=.type "StopIteration")->E (.ref e) {s with heap:=h'}):wpAny (model prog w) A (Builtin.SmallTypes.nextOf (.ref i)) Q E s:=by
 obtain⟨o,ho,hc,hd⟩:=id hit;obtain⟨ol,ye,_,nl,GZ⟩:=ht;unfold Builtin.SmallTypes.nextOf;refine a_ (OP hit.typeIs PJ (OE PJ hit.typeIs F.entry_tuple_iterator_next ?_ (F.args_tuple_iterator_next_1 _)));show wpAny _ _ (field (.ref i) 0 >>= _) _ _ s;refine a_ (Pj ho hd rfl (show wpAny _ _ (if(Value.ref t==Value.none)=true then _ else _) _ _ s from ?_));rw[l_ (show ¬((Value.ref t==Value.none)=true)from F_)];refine(show wpAny _ _ (field (.ref i) 1 >>= _) _ _ s from a_ (Pj ho hd rfl (show wpAny _ _ (seqItems? (.ref t) >>= _) _ _ s from a_ (PH ye GZ ?_))));simp only[OC,hx];refine a_ (wpAny_rule (a_ (Q3 ho hd (by simp) ?_)));refine(show wpAny _ _ (newExc (.type "StopIteration") [] >>= _) _ _ _ from a_ ?_);simp only[newExc,newTuple];refine a_ (OI (a_ (Rh (by first | rfl | (simp only[firstArgMember];rfl)) ?_)) (by size_fits));refine OI ?_ (by size_fits);simp only[raiseNew];refine a_ (wpAny_handled ?_)
 first | rw[show A.in1.handled=none from hh] | rw[hh]
 exact a_ (d_ (wpAny_throw (hE _ _ (((OT ..).extBut.push _).push _) ⟨_,n_ _ rfl,rfl⟩)))
theorem LZ(i l:SM):Src prog w i l (λk h=>h.IsTupleIter i l k) (λxs h=>h.IsTuple l xs.toArray) where
 nxt:=λh1 h2 h3 h4=>ub h1 h2 (by simpa using h3) h4
 fin:=λhh h1 h2 h3 h4=>xt hh h1 h2 (by simpa using h3) h4
 itx:=λh1 h2=>h1.at h2
 atx:=λ⟨o,h1,h2⟩ h3=>⟨o,h3 o h1,h2⟩
 obj:=λ⟨o,e,c,d⟩=>⟨o,e,λv z=>by rw[d]at z;cases z⟩
 lt:=λ⟨o,h1,_⟩=>⟨o,h1⟩
theorem K'(i l:SM):Src prog w i l (λk h=>h.IsListIter i l k) (λxs h=>h.IsList l xs.toArray) where
 nxt:=λh1 h2 h3 h4=>wpAny_nextOf_list_item h1 h2 (by simpa using h3) h4
 fin:=λhh h1 h2 h3 h4=>wpAny_nextOf_list_end hh h1 h2 (by simpa using h3) h4
 itx:=λh1 h2=>h1.at h2
 atx:=λh1 h2=>h1.at h2
 obj:=λ⟨o,e,c,d⟩=>⟨o,e,λv z=>by rw[d]at z;cases z⟩
 lt:=λ⟨o,h1,_⟩=>⟨o,h1⟩
variable {A:SG}{E:Sj}{s:SE}{z TI TO i1 i2 l1 l2:SM}{k1 k2:Nat}{xs ys:Sr}{x y a b:SC}{NI it2:Nat->SH->Prop}{at1 at2:Sr->SH->Prop}
theorem Hy(hs:Heap.ExtBut e h h')(n:c≠e):∀o,h.get? c=some o->h'.get? c=some o:=λo q=>hs c o n q
end
section
variable {X:Cx}{pins:Sk}{σ:L2.St}{H:Hp}{s:SE}{h':SH}
theorem k9{t':Nat}{ch:Sv}(I:L2.Inv X pins σ H s)(hf:∀b∈ch,bR X pins H b)(k:∀b o,b∉ch->s.heap.get? b=some o->h'.get? b=some o):L2.Inv X pins σ H {s with heap:=h',toks:=t'}:=by
 have JW:∀b u,H b=some u->b∉ch:=λb u e z=>by rw[(hf b z).1]at e;cases e
 refine I.step (λb hb=>?_) (λb o _ _ hc e _=>k b o hc e) (λb o _ _ hc e _=>⟨o.slots,k b o hc e⟩) (λ_ _ _ _ n=>n)
  (λb o hc e=>⟨o,k b o hc e⟩) (λ_ _ e=>e) (λ_ _ _ e=>e) (λ_ _ e=>e) (λm hm=>?_) (λb u e=>?_) I.bare
 .obtain⟨f0,f1,f2,f3,f4,f5⟩:=hf b hb;exact⟨f3,f1,f4,f5⟩
 .obtain⟨o,es,ep,ho,r⟩:=hm;exact⟨o,es,ep,k _ o (λz=>(hf _ z).2.1 rfl) ho,r⟩
 .refine(I.hok b u e).stay (λc v hc q=>k c v ?_ q) (λ_ q=>q) (λ_ _ q=>q) λ_ _ q=>q;rcases hc with z | z
  .rw[z];exact JW b u e
  .exact JW c _ z
end
structure MF(K:Fg)(l:Addr)(S:Hp->List V->Prop)(at_:List Value->Heap->Prop):Prop where
 get:∀{X:Cx}{pins:List (Addr×Obj)}{σ:L2.St}{H:Hp}{s:Shared}{xs:List V},X.K=K->L2.Inv X pins σ H s->S H xs->∃aX,av xs aX/\at_ aX s.heap
 inj:∀{X:Cx}{pins:List (Addr×Obj)}{σ:L2.St}{H:Hp}{s:Shared}{xs ys:List V},X.K=K->L2.Inv X pins σ H s->S H xs->S H ys->xs=ys
theorem LQ{K:Fg}(l:SM):MF K l (λH xs=>cH K H l xs) (λxs h=>h.IsTuple l xs.toArray):=
 ⟨λe I h=>by subst e;obtain⟨aX,rv,p,hz⟩:=I.tuple h;exact⟨aX,rv,p⟩,λe I h1 h2=>by subst e;exact I.tuple_inj h1 h2⟩
theorem LS{K:Fg}(l:SM):MF K l (λH xs=>cT K H l xs) (λxs h=>h.IsList l xs.toArray):=
 ⟨λe I h=>by subst e;obtain⟨aX,rv,p,hz⟩:=I.list h;exact⟨aX,rv,p.isList⟩,λe I h1 h2=>by subst e;exact I.list_inj h1 h2⟩
abbrev Kv(c:String)(h:SH)(l:SM):SH:=h.push {cls:=.type c,data:=.fields #[.ref l,.int 0 0]}
section
variable {X:Cx}{es:Sw}{kk:Nat}{tp:Pos}
def pairs:SV->SV->SV
 | x::xs,y::ys=>.tup [x,y]::pairs xs ys
 | _,_=>[]
end
end Mi
namespace Mi
open PySem L2
theorem FM(h1:f env=some (.bl p))(h2:p=false->g env=some (.bl q)):GN f g env=some (.bl (p||q)):=by
 unfold GN;rw[h1];cases p with
 | false=>exact h2 rfl
 | true=>rfl
theorem Am(h1:f env=some p)(h2:p=true->g env=some q):rh f g env=some (p&&q):=by
 unfold rh;rw[h1];cases p with
 | true=>exact h2 rfl
 | false=>rfl
theorem zG(h1:f env=some p)(h2:p=false->g env=some q):AC f g env=some (p||q):=by
 unfold AC;rw[h1];cases p with
 | false=>exact h2 rfl
 | true=>rfl
theorem IU(hx:fa env=some x)(hy:fb env=some y)(hw:fc env=some w)(h1:b x y=some (.bl p))(h2:b' y w=some (.bl q)):DM b b' fa fb fc env=some (.bl (p&&q)):=by
 unfold DM;rw[hx];show(fb env).bind _=_;rw[hy];show(b x y).bind _=_;rw[h1];cases p with
 | true=>show(fc env).bind _=_;rw[hw];exact h2
 | false=>rfl
theorem cg(h1:fi env=some ds)(h2:dE is (cW n caps env)=true)(h3:iT t c k (cW n caps env) ds=some xs)(hl:xs.length<=16000000):bG fi is t c k n caps env=some (.lst xs):=by
 unfold bG;rw[h1];show(if dE is (cW n caps env)=true then _ else _)=_;rw[k_ h2,h3];show(if xs.length<=16000000 then _ else _)=_;rw[k_ hl]
theorem zo(p:D->Bool)(g:D->D):∀(ds:SV),(∀d∈ds,∃e1,t d env=some e1/\c e1=some (p d)/\(p d=true->k e1=some [g d]))->iT t c k env ds=some ((ds.filter p).map g)
 | [],_=>rfl
 | d::ds,h=>by
  obtain⟨e1,h1,h2,h3⟩:=h d j_;have ih:=zo p g ds λx hx=>h x (i_ _ hx);unfold iT;rw[h1];show(c e1).bind _=_;rw[h2];cases hp:p d with
  | true=>
   show(if true=true then k e1 else some []).bind _=_;rw[k_ rfl,h3 hp];show(iT t c k env ds).bind _=_;rw[ih,P5,k_ hp];rfl
  | false=>
   simp only[M_,z_,OS,ih,O_,P5,hp]
theorem zl{t:Ft}{c:Fb}{k:SS}{env:En}{P:D->Prop}:∀(ds:SV),(∀d∈ds,∃e1 x,t d env=some e1/\c e1=some true/\k e1=some [x]/\P x)->∃xs,iT t c k env ds=some xs/\xs.length=ds.length/\∀x∈xs,P x
 | [],_=>⟨[],rfl,rfl,λ_ h=>by cases h⟩
 | d::ds,h=>by
  obtain⟨e1,x,h1,h2,h3,h4⟩:=h d j_;obtain⟨xs,i1,i2,i3⟩:=zl ds λy hy=>h y (i_ _ hy);refine⟨x::xs,?_,by simp[i2],λy hy=>?_⟩
  .unfold iT;rw[h1];show(c e1).bind _=_;rw[h2];show(if true=true then k e1 else some []).bind _=_;rw[k_ rfl,h3];show(iT t c k env ds).bind _=_;rw[i1];rfl
  .rcases s_.mp hy with rfl | hy
   .exact h4
   .exact i3 y hy
theorem i0(h:f env=some d):a5 f env=some [d]:=by unfold a5;rw[h];rfl
theorem gR(I:SV->En->Prop)(g:D->SV)(B M:Nat):∀(ds:SV)(acc:SV)(env:En),I acc env->acc.length+B*ds.length<=M->(∀d∈ds,(g d).length<=B/\∀acc e,I acc e->acc.length+B<=M->∃e1,(t d e).bind body=some (.nx e1)/\I (acc++g d) e1)->
  ∃e2,dH t body ds env=some (.nx e2)/\I (acc++ds.flatMap g) e2
 | [],acc,env,h,_,_=>⟨env,rfl,by simpa using h⟩
 | d::ds,acc,env,h,hl,hb=>by
  obtain⟨b1,b2⟩:=hb d j_;rw[H_,R_]at hl;obtain⟨e1,h1,h2⟩:=b2 acc env h (by lia);obtain⟨e2,h3,h4⟩:=gR I g B M ds (acc++g d) e1 h2 (by rw[t_];lia) λd' hd=>hb d' (i_ _ hd);refine⟨e2,?_,by rw[O7,<- Po];exact h4⟩;obtain⟨e0,h5,h6⟩:=b_.mp h1;show(t d env).bind (λe1=>(body e1).bind _)=_;rw[h5];show(body e0).bind _=_;rw[h6];exact h3
theorem rX{g:D->SV}{B:Nat}:∀(ds:SV),(∀d∈ds,(g d).length<=B)->(ds.flatMap g).length<=B*ds.length
 | [],_=>by simp
 | d::ds,h=>by
  rw[O7,t_,H_,R_];have:=h d j_;have:=rX ds λx hx=>h x (i_ _ hx)
  lia
theorem jb:d∈aI 0 n↔∃i:Nat,i<n/\d=.int i:=by
 unfold aI;simp only[x_,Ov];constructor
 .rintro⟨i,h,rfl⟩;exact⟨i,h,by simp⟩
 .rintro⟨i,h,rfl⟩;exact⟨i,h,by simp⟩
theorem eD(n:Nat):(aI 0 n).length=n:=by simp[aI]
theorem pM:∀{ds:SV},(∀d∈ds,fw d<=n)->nA ds<=n
 | [],_=>by unfold nA;lia
 | d::ds,h=>by
  unfold nA;have:=h d j_;have:=pM λx hx=>h x (i_ _ hx)
  lia
theorem wc(h:∀d∈ds,fw d<=n):fw (.tup ds)<=n+1:=by unfold fw;have:=pM h;lia
theorem u9(h:∀d∈ds,fw d<=n):fw (.lst ds)<=n+1:=by unfold fw;have:=pM h;lia
theorem hU(i:Int):fw (.int i)=0:=by unfold fw;rfl
theorem LN(h1:f env=some d)(h2:g env=some (.lst es))(h3:fw d<=60)(hb:inD d es=b)(h4:(pl d&&i9 es)=true:=by rfl):ai (D3 false) f g env=some (.bl b):=by
 rw[az h1 h2];show(if fw d<=60/\(pl d&&i9 es)=true then _ else _)=_;rw[k_ ⟨h3,h4⟩,<- hb];rfl
theorem FK(h1:f env=some d)(h2:g env=some e)(h3:e9 d e=true)(hb:ib d e=b):ai cy f g env=some (.bl b):=by
 rw[az h1 h2];unfold cy;rw[k_ h3,hb]
theorem Lw(h1:f env=some d)(h2:g env=some e)(h3:e9 d e=true)(hb:ib d e=b):ai vg f g env=some (.bl !b):=by
 rw[az h1 h2];unfold vg;rw[k_ h3,hb]
theorem Fq(h:fw d<=60)(h2:(pl d&&pl e)=true):e9 d e=true:=by unfold e9;rw[h2,v_ h];rfl
theorem L5(h:fw e<=60)(h2:(pl d&&pl e)=true):e9 d e=true:=by unfold e9;rw[h2,v_ h,Bool.or_true];rfl
theorem Cq(xs:SV):ib (.lst xs) (.lst [])=xs.isEmpty:=by
 cases xs<;>(unfold ib;rfl)
theorem cu(h:fs env=some ds):aP fs env=some (.tup ds):=by unfold aP;rw[h];rfl
theorem oe(h:fs env=some ds):bN fs env=some (.lst ds):=by unfold bN;rw[h];rfl
theorem vw(h:t env=some b)(h1:b=true->f env=some d)(h2:b=false->g env=some d):iteFn t f g env=some d:=by
 unfold iteFn;rw[h];cases b with
 | true=>exact h1 rfl
 | false=>exact h2 rfl
theorem zL{α:Type}{xs:List α}{i:Int}(h0:0<=i)(h1:i<xs.length):∃x,L2.atI xs i=some x/\x∈xs:=by
 obtain⟨n,rfl⟩:=Pq h0;have hn:n<xs.length:=by lia
 exact⟨xs[n],dh (f_ hn),OL hn⟩
theorem zC(k:Nat)(h:f env=some (.tup ds))(hk:k<ds.length):tG gH f oNone (cD (fC (.int (k:Int)))) env=some (.tup (ds.take k)):=by
 unfold tG;rw[h];show(if HT.cO ds.length 0 none=0/\HT.cO ds.length ds.length (some (k:Int))=ds.length then none else some (D.tup (cutD ds none (some (k:Int)))))=_;rw[l_ (by rw[HT.vB];lia),oD]
theorem yP(h:f env=some (.lst ds)):bc j6 f env=some (.tup ds):=by unfold bc;rw[h];rfl
theorem Cz(h:f env=some (.lst ds)):bc oQ f env=some (.lst ds):=by unfold bc;rw[h];rfl
theorem tK(h:f env=some (.lst xs))(h2:g env=some (.lst ys))(hl:xs.length+ys.length<=16000000):ai ni f g env=some (.lst (xs++ys)):=by
 rw[az h h2];show(if xs.length+ys.length<=16000000 then _ else _)=_;rw[k_ hl]
theorem qO:∀(bs:List Bool),xT (bs.map .bl)=some bs
 | []=>rfl
 | b::bs=>by show(xT (bs.map .bl)).bind _=_;rw[qO bs];rfl
theorem Ip{f:Fe}{env:En}{bs:List Bool}(h:f env=some (.lst (bs.map .bl))):bc CB f env=some (.bl (bs.all id)):=by
 rw[jD h];show(xT (bs.map .bl)).bind _=_;rw[qO];rfl
theorem gP(h:f env=some (.lst ds)):setO i f env=some (.nx (env.set i (.O (.L ds)))):=by unfold setO;rw[h];rfl
end Mi
namespace Mi
theorem fM{t:Ft}{d:D}{e e0:En}{b:Fs}{o:Out}(h:t d e=some e0)(h2:b e0=some o):(t d e).bind b=some o:=by rw[h];exact h2
theorem pT(g:D->D)(ds:SV)(h:∀d∈ds,∃e1,t d env=some e1/\k e1=some [g d]):iT t S3 k env ds=some (ds.map g):=by
 have:=zo (t:=t) (c:=λ_=>some true) (k:=k) (env:=env) (λ_=>true) g ds λd hd=>by
  obtain⟨e1,h1,h2⟩:=h d hd;exact⟨e1,h1,rfl,λ_=>h2⟩
 rwa [List.filter_eq_self.mpr (λ_ _=>rfl)]at this
theorem BH(h:fe env=some d)(h1:env[i]?=some (.O (.L ds)))(h2:fk env=some (.int j))(h3:L2.vU ds.length j=some n):vz i fk fe env=some (.nx (env.set i (.O (.L (ds.set n d))))):=by
 unfold vz;rw[h,M_,h1];show(fk env).bind _=_;rw[h2];show(L2.vU ds.length j).bind _=_;rw[h3];rfl
theorem F'{n:Nat}{j:Int}(h0:0<=j)(h1:j<n):L2.vU n j=some j.toNat:=by unfold L2.vU;rw[k_ h0,k_ h1]
end Mi
namespace Mi
open PySem PySem.Spec PyProof.Rows L2
def il(ks:So)(p:SA):So:=if p∈ks then ks else ks++[p]
theorem AA(h:kk p=kk q):p=q:=by
 obtain⟨a,b⟩:=p;obtain⟨c,d⟩:=q;unfold kk at h;simp at h;exact Prod.ext h.1 h.2
theorem u5:∀{xs:List α}{ys:List β},xs.length=ys.length->(xs.zip ys).map (·.1)=xs
 | [],[],_=>rfl
 | [],_::_,h=>by simp at h
 | _::_,[],h=>by simp at h
 | x::xs,y::ys,h=>by rw[P7,G_,u5 (by simpa using h)]
theorem xp{α β:Type}{f:α->β}(hf:∀x y,f x=f y->x=y){l:List α}:(l.map f).Nodup↔l.Nodup:=by
 unfold List.Nodup;rw[O6];exact⟨λh=>h.imp λhne e=>hne (by rw[e]),λh=>h.imp λhne e=>hne (hf _ _ e)⟩
def kd(x:SA×SM):SR×SM×SC:=(kk x.1,x.2,.bool true)
section
variable {P:SF}{w:SI}{a:SM}{ps:So}{bs:Sv}{h:SH}
end
section
variable {X:Cx}{rg:Gr}{l r:SN}{fa fb:Fe}{ga gb:Gr}{pos p:Pos}{k:Nat}
theorem zQ{pins σ H s}(I:Inv X pins σ H s)(hq:cH X.K H b [.int m,.int n]):(tupleKind (aF X.prog X.w)).is s.heap (kk (m,n)) b:=by
 obtain⟨aX,rv,⟨o,h1,h2,n',h3⟩,_⟩:=I.tuple hq;exact⟨o,aX.toArray,n',h1,h2,h3,by simpa using jQ (ks:=kk (m,n)) rv⟩
end
section
variable {X:Cx}{rg:Gr}{pos:Pos}
def wY(i:Nat)(f:Fe):Fs:=λenv=>match env[i]? with
 | some (.O (.L ds))=>(f env).bind λd=>match d with
  | .lst es=>if ds.length+es.length<=16000000 then some (.nx (env.set i (.O (.L (ds++es)))))else none
  | _=>none
 | _=>none
theorem Jx(i:Nat)(he:PD X .nw e fe)(hN:X.N[i]?=some x:=by rfl)(hv:wX X.env.scope x:=by first | exact Or.inl rfl | exact Or.inr (Or.inl rfl) | exact Or.inr (Or.inr rfl))
  (hd:(x==("__debug__":Str))=false:=by decide) (iP:(x==("__classdict__":Str))=false:=by decide) (hst:starEach [e] X.env=[(false,eval e X.env)]:=by rfl)
  (gY:attributeBase (.Name x px) "extend" X.env (eval (.Name x px) X.env)=eval (.Name x px) X.env:=by rfl)
  (uR:((backTo bK (starEach [e] X.env)).all (λx=>!x.1)&&(backToKw bK (keywordEach [] X.env)).all (λx=>x.1.isSome)
   && decide (([e]:Sw).length+([]:List Keyword).length+(if([]:List Keyword).isEmpty then 0 else 1)<30))=true:=by rfl)
  (gZ:(apos.endLine==bK.line)=true:=by rfl)
  (hs:swapsWith (.Call (.Attribute (.Name x px) "extend" apos) [e] [] bK) none pos.line X.env=pure false:=by rfl) :
  SD X rg (.Expr (.Call (.Attribute (.Name x px) "extend" apos) [e] [] bK) pos) (wY i fe):=by
 refine PS.imp (lg (AF QO PySem.F.slot_list_extend PySem.F.type_list_extend xf (eO hN hv hd iP) (bF he c6 hst) gY uR gZ hst rfl) hs) λE σ H aG=>?_;obtain⟨env,B,Z,o,R,e,k⟩:=aG;unfold wY at e
 split at e
 .rename_i ds hi;obtain⟨d,e1,e2⟩:=b_.mp e;cases d<;>try cases e2
  rename_i es;obtain⟨hl,rfl⟩:=ma e2;obtain⟨y,e3,a,o,e4,e5,e6,vs,rfl,r⟩:=R.sl i _ hi;subst e4;refine⟨_,e3,.inl ⟨rfl,vs,cT.of e5⟩,env,B,Z,_,R,e1,λv Z1 H1 x1 g1=>?_⟩;obtain⟨b,us,es',rfl,e7,h1,h2,h3,r2⟩:=g1;cases e7;have R1:=R.ext x1;have r1:=ar.mono x1.z ds r;refine⟨a,b,vs,us,rfl,rfl,x1.h _ _ e5,h2,by rw[<- r.len,<- r2.len,OJ];omega,?_⟩;obtain⟨R2,x2⟩:=R1.wr hi e3 (cw.l (r1.app r2));exact k σ Z1 _ ((x1.part R.bh).transB x2) R2
 .cases e
def insAt(xs:List α)(k:Nat)(y:α):List α:=xs.take k++y::xs.drop k
theorem av.insAt(r:av xs us)(ru:RelV y u)(k:Nat):av (Mi.insAt xs k y) (Mi.insAt us k u):=(r.take k).append (.cons ru (r.drop k))
theorem ar.insAt{K:Fg}{H:Hp}{ds:SV}{vs:SX}{d:D}{v:V}(r:ar K H ds vs)(rd:Rep K H d v)(k:Nat):ar K H (Mi.insAt ds k d) (Mi.insAt vs k v):=(r.take k).app (ar.cons rd (r.drop k))
theorem xi(xs:List α)(k:Nat)(y:α):(insAt xs k y).length=xs.length+1:=by
 unfold insAt;rw[t_,H_,Pk,RX];omega
def rInsert:V->SX->Hp->VK->Prop:=λx vs H Q=>∃(l:SM)(xs:SX)(k:Nat)(y:V),x=.ref l/\vs=[.int (k:Int),y]/\H l=some (.lst xs)/\k<=xs.length/\xs.length<sizeLine/\Q .non (upd H l (.lst (insAt xs k y)))
theorem wA:Ly X "list.insert" rInsert:=by
 intro pins s σ H x vs v us Q I rx rv h;obtain⟨l,xs,k,y,rfl,rfl,hH,hk,hz,q⟩:=h;cases rx;obtain⟨u,w,rfl,ru,JZ⟩:=rv.two;obtain⟨t,rfl⟩:=ru;obtain⟨z,aX,n,r,hl,e⟩:=I.lstM hH;have hb:=OJ;have hf:¬(!Builtin.List.listFitsIndex (k:Int))=true:=by
  rw[fitsIndex_both (by omega) (by omega)];exact F_
 have hsz:aX.toArray.size<=sizeLine:=by rw[p_];omega
 generalize hkk:(k:Int)=kz at hf ⊢;have M:=AutoListH.list_insert_list_int_val_1 l aX.toArray n kz t w hf hsz;refine R8 F.slot_list_insert ⟨_,e,rfl⟩ F.entry_list_insert (F.args_list_insert_3 _ _ _) M ⟨e,?_⟩;subst hkk;refine⟨.non,_,I.lset hH e ?_ (av.insAt r JZ k) (by rw[xi];omega),rfl,q⟩;simp only[p_];rw[l_ (by omega),OC,Nat.min_eq_left (by omega)];simp[insAt,List.push_toArray,List.extract_toArray,Q0]
def Az(i:Nat)(fk f:Fe):Fs:=λenv=>match env[i]? with
 | some (.O (.L ds))=>(fk env).bind λkd=>(f env).bind λd=>match kd with
  | .int j=>if 0<=j/\j<=ds.length/\ds.length<16000000 then some (.nx (env.set i (.O (.L (insAt ds j.toNat d)))))else none
  | _=>none
 | _=>none
theorem Jh(i:Nat)(hk:PD X .cl ke fk)(he:PD X .cl e fe)(hN:X.N[i]?=some x:=by rfl)(hv:wX X.env.scope x:=by first | exact Or.inl rfl | exact Or.inr (Or.inl rfl) | exact Or.inr (Or.inr rfl))
  (hd:(x==("__debug__":Str))=false:=by decide) (iP:(x==("__classdict__":Str))=false:=by decide) (hst:starEach [ke,e] X.env=(false,eval ke X.env)::starEach [e] X.env:=by rfl) (hst2:starEach [e] X.env=[(false,eval e X.env)]:=by rfl)
  (gY:attributeBase (.Name x px) "insert" X.env (eval (.Name x px) X.env)=eval (.Name x px) X.env:=by rfl)
  (uR:((backTo bK (starEach [ke,e] X.env)).all (λx=>!x.1)&&(backToKw bK (keywordEach [] X.env)).all (λx=>x.1.isSome)
   && decide (([ke,e]:Sw).length+([]:List Keyword).length+(if([]:List Keyword).isEmpty then 0 else 1)<30))=true:=by rfl)
  (gZ:(apos.endLine==bK.line)=true:=by rfl) (iO:(backTo bK (starEach [e] X.env)).any (·.1)=false:=by rfl)
  (hs:swapsWith (.Call (.Attribute (.Name x px) "insert" apos) [ke,e] [] bK) none pos.line X.env=pure false:=by rfl) :
  SD X rg (.Expr (.Call (.Attribute (.Name x px) "insert" apos) [ke,e] [] bK) pos) (Az i fk fe):=by
 refine PS.imp (lg (AF QO PySem.F.slot_list_insert PySem.F.type_list_insert wA (eO hN hv hd iP) (bF hk (bF he c6 hst2) hst) gY uR gZ hst iO) hs) λE σ H aG=>?_;obtain⟨env,B,Z,o,R,e,kq⟩:=aG;unfold Az at e
 split at e
 .rename_i ds hi;obtain⟨kd,e1,e⟩:=b_.mp e;obtain⟨d,e2,e⟩:=b_.mp e;cases kd<;>try cases e
  rename_i j _;obtain⟨⟨h0,h1,h2⟩,rfl⟩:=ma e;obtain⟨y,e3,a,o,e4,e5,e6,vs,rfl,r⟩:=R.sl i _ hi;subst e4;refine⟨_,e3,.inl ⟨rfl,vs,cT.of e5⟩,env,B,Z,_,R,e1,λv Z1 H1 x1 g1=>⟨env,B,Z1,_,R.ext x1,e2,λu Z2 H2 x2 g2=>?_⟩⟩;have x12:=x1.trans x2;have R2:=R.ext x12;have hl:=r.len;refine⟨a,vs,j.toNat,u,rfl,by rw[g1.int,Int.toNat_of_nonneg h0],x12.h _ _ e5,by omega,by rw[OJ];omega,?_⟩;obtain⟨R3,x3⟩:=R2.wr hi e3 (cw.l (ar.insAt (ar.mono x12.z ds r) g2 j.toNat));exact kq σ Z2 _ ((x12.part R.bh).transB x3) R3
 .cases e
end
section
variable {X:Cx}{rg:Gr}{l r:SN}{fa fb:Fe}{ga gb:Gr}{pos p p3:Pos}
end
section
variable {X:Cx}{tg:SN}
end
section
variable {prog:SF}{w:SI}{A:SG}{E:Sj}{s:SE}{e i l:SM}{k:Nat}{xs:Sr}{x old:SC}{it:Nat->SH->Prop}{at_:Sr->SH->Prop}
theorem AE{Q:Sj}(S:Src prog w i l it at_)(he:IsEnum s.heap e i k old)(hit:it k s.heap)(EE:at_ xs s.heap)(hx:xs[k]?=some x)(hne:e≠i)
  (hQ:∀(g h':SH),IsEnumOut h' e i ((k:Int)+1) x s.sz->it (k+1) h'->g.objs.size=s.sz->(∀b o,b≠e->b≠i->s.heap.get? b=some o->g.get? b=some o)->
   (∀b o,b≠e->(g.push {cls:=.type "tuple",data:=.seq #[.int k s.toks,x]}).get? b=some o->h'.get? b=some o)->Q (.ref s.sz) {s with heap:=h',toks:=s.toks+1}) :
  wpAny (model prog w) A (Builtin.«enumerate.__next__» ⟨[.ref e],[]⟩) (λf s'=>∃v,f=.done (.ret v)/\Q v s') E s:=by
 obtain⟨hp,gn,d,tk,os⟩:=s;refine(show wpAny _ _ (field (.ref e) 2 >>= _) _ _ _ from a_ (Pj he rfl rfl (a_ (S.nxt hit EE hx λg1 NI s1=>?_))))
 replace s1:Heap.SameBut i hp g1:=s1
 have MG:IsEnum g1 e i k old:=(s1.2 e hne).trans he;refine(show wpAny _ _ (field (.ref e) 3 >>= _) _ _ ⟨g1,gn,d,tk,os⟩from a_ (Pj MG rfl rfl ?_));refine(show wpAny _ _ (field (.ref e) 4 >>= _) _ _ ⟨g1,gn,d,tk,os⟩from a_ (Pj MG rfl rfl ?_));refine(show wpAny _ _ (mkInt k >>= _) _ _ ⟨g1,gn,d,tk,os⟩from a_ (wpAny_mkInt ?_));refine(show wpAny _ _ (setField (.ref e) 3 (rawInt ((k:Int)+1)) >>= _) _ _ ⟨g1,gn,d,tk+1,os⟩from a_ (Pb MG (by simp) λg2 uN s2=>?_))
 replace s2:Heap.SameBut e g1 g2:=s2
 replace uN:IsEnum g2 e i ((k:Int)+1) old:=uN
 refine(show wpAny _ _ (setField (.ref e) 4 .none >>= _) _ _ ⟨g2,gn,d,tk+1,os⟩from a_ (Pb uN (by simp) λg3 he3 s3=>?_))
 replace s3:Heap.SameBut e g2 g3:=s3
 replace he3:IsEnum g3 e i ((k:Int)+1) old:=he3
 refine(show wpAny _ _ (newTuple [.int k tk,x] >>= _) _ _ ⟨g3,gn,d,tk+1,os⟩from a_ (wpAny_newTuple ?_));have KZ:IsEnum (g3.push {cls:=.type "tuple",data:=.seq #[.int k tk,x]}) e i ((k:Int)+1) old:=e_ _ he3;have hit3:it (k+1) g3:=S.itx (S.itx NI (Hy s2.extBut (Pw hne))) (Hy s3.extBut (Pw hne));have Kl:it (k+1) (g3.push {cls:=.type "tuple",data:=.seq #[.int k tk,x]}):=S.itx hit3 λo q=>e_ _ q;have hsz:g3.objs.size=hp.objs.size:=by rw[s3.1,s2.1,s1.1]
 have hk3:∀b o,b≠e->b≠i->hp.get? b=some o->g3.get? b=some o:=λb o b1 b2 q=>s3.extBut b o b1 (s2.extBut b o b1 (s1.extBut b o b2 q));generalize hh:g3.push {cls:=.type "tuple",data:=.seq #[.int k tk,x]}=g4 at KZ Kl;refine(show wpAny _ _ (Builtin.SmallTypes.ownedTupleIsFree (.ref e) >>= _) _ _ ⟨g4,gn,d,tk+1,os⟩from ?_);rw[hsz];refine a_ ?_;unfold Builtin.SmallTypes.ownedTupleIsFree;refine a_ (Pj KZ rfl rfl (d_ ?_));simp only[PV];refine a_ (wpAny_rule (a_ (Pj KZ rfl rfl (a_ (Pb KZ (by simp) λg5 he5 s5=>?_)))))
 replace s5:Heap.SameBut e g4 g5:=s5
 replace he5:IsEnum g5 e i ((k:Int)+1) x:=he5
 refine(show wpAny _ _ (Builtin.SmallTypes.ownedTupleHandOut (.ref e) (.ref hp.objs.size) >>= _) _ _ ⟨g5,gn,d,tk+1,os⟩from a_ ?_);unfold Builtin.SmallTypes.ownedTupleHandOut;refine a_ (Pb he5 (by simp) λg6 he6 s6=>?_)
 replace s6:Heap.SameBut e g5 g6:=s6
 replace he6:IsEnumOut g6 e i ((k:Int)+1) x hp.objs.size:=he6
 refine Pb he6 (by simp) λg7 he7 s7=>?_
 replace s7:Heap.SameBut e g6 g7:=s7
 replace he7:IsEnumOut g7 e i ((k:Int)+1) x hp.objs.size:=he7
 refine a_ (RO (d_ ⟨_,rfl,hQ g3 g7 he7 (S.itx (S.itx (S.itx Kl (Hy s5.extBut (Pw hne))) (Hy s6.extBut (Pw hne))) (Hy s7.extBut (Pw hne))) hsz hk3 λb o b1 q=>?_⟩));rw[hh]at q;exact s7.extBut b o b1 (s6.extBut b o b1 (s5.extBut b o b1 q))
theorem AQ(S:Src prog w i l it at_)(he:IsEnum s.heap e i k old)(hit:it k s.heap)(EE:at_ xs s.heap)(hx:xs[k]?=some x)(hne:e≠i)
  (hQ:∀(g h':SH),IsEnumOut h' e i ((k:Int)+1) x s.sz->it (k+1) h'->g.objs.size=s.sz->(∀b o,b≠e->b≠i->s.heap.get? b=some o->g.get? b=some o)->
   (∀b o,b≠e->(g.push {cls:=.type "tuple",data:=.seq #[.int k s.toks,x]}).get? b=some o->h'.get? b=some o)->Q (some (.ref s.sz)) {s with heap:=h',toks:=s.toks+1}):wpAny (model prog w) A (pyNext (.ref e)) Q E s:=by
 have hT:s.TypeIs (.ref e) "enumerate":=⟨_,he,rfl⟩;unfold pyNext;exact a_ (QD (OP hT Qh (OE Qh hT F.entry_enumerate_next (AE S he hit EE hx hne λg h' b1 b2 b3 b4 b5=>d_ (hQ g h' b1 b2 b3 b4 b5)) (F.args_enumerate_next_1 _))))
theorem zR(hh:A.handled=none)(S:Src prog w i l it at_)(he:IsEnum s.heap e i k old)(hit:it k s.heap)(EE:at_ xs s.heap)(hx:xs[k]?=none)
  (hQ:∀h',Heap.ExtBut i s.heap h'->Q none {s with heap:=h'}):wpAny (model prog w) A (pyNext (.ref e)) Q E s:=by
 have hT:s.TypeIs (.ref e) "enumerate":=⟨_,he,rfl⟩;unfold pyNext;refine a_ (QD (OP hT Qh (OE Qh hT F.entry_enumerate_next ?_ (F.args_enumerate_next_1 _))));refine(show wpAny _ _ (field (.ref e) 2 >>= _) _ _ _ from a_ (Pj he rfl rfl (a_ (S.fin hh hit EE hx λh' y G1 hy=>?_))));obtain⟨o,ho,hc⟩:=hy;exact a_ (Ra ⟨o,ho,hc⟩ isSubtype_stop (d_ (hQ _ G1)))
theorem Ga{es:Sw}{x1:Nat}{pos:Pos}{n:Int}{T:SM}{Q:Unit->SE->Prop}(he:IsEnumOut s.heap e i n x T)(hQ:∀h',IsEnum h' e i n x->Heap.SameBut e s.heap h'->Q () {s with heap:=h'}) :
  wpAny (model prog w) A (letOwnedTupleGo (.Tuple es x1 pos) (.ref e) (.ref T)) Q E s:=by
 unfold letOwnedTupleGo;refine a_ (wpAny_load he ?_);show wpAny _ _ (if(["enumerate","zip","dict_itemiterator","dict_reverseitemiterator","odict_iterator","itertools.zip_longest","itertools.pairwise"].contains "enumerate"&&(#[rawInt T,.bool false,.ref i,rawInt n,.none,x]:Array SC)[0]?==some (rawInt T))=true then _ else _) Q E s;rw[k_ (by simp)];exact a_ (wpAny_rule (show wpAny _ _ (setField (.ref e) 0 .none) Q E s from Pb he (by simp) λh' G1 hs'=>hQ h' G1 hs'))
end
def KI(S:Hp->SX->Prop):It:=
 ⟨λi H=>∃xs x,S H xs/\xs[i]?=some x,
  λi H v H'=>∃(q:SM),H q=none/\v=.ref q/\∀xs x,S H xs->xs[i]?=some x->H'=upd H q (.tup [.int (i:Nat),x]),
  λi H=>∃xs,S H xs/\xs.length<=i⟩
theorem n8{P:SF}{w:SI}{K:Fg}{es:Sw}{k:Nat}{pos:Pos}{e i l:SM}{it:Nat->SH->Prop}{at_:Sr->SH->Prop}{S:Hp->SX->Prop}(W:Src P w i l it at_)(K1:MF K l S at_)(hne:e≠i) :
  Turn P w K (.Tuple es k pos) (KI S) [e,i] e (λn h=>(∃old,IsEnum h e i (n:Nat) old)/\it n h) where
 mem:=by simp
 obj:=λn h ⟨⟨old,he⟩,h1⟩ c hc=>by
  simp only[s_,OR,P_]at hc;rcases hc with rfl | rfl
  .exact⟨_,he,λv q=>by cases q⟩
  .exact W.obj h1
 keep:=λn h h' ⟨⟨old,he⟩,h1⟩ kk=>⟨⟨old,kk e (by simp) _ he⟩,W.itx h1 λo q=>kk i (by simp) o q⟩
 item:=by
  intro X hP hw hK hc n pins s σ H E I hf st hg;subst hP hw;obtain⟨⟨old,he⟩,h1⟩:=st;obtain⟨xs,x,q1,hx⟩:=hg;obtain⟨us,r1,m1⟩:=K1.get hK I q1;obtain⟨u,hu,ru⟩:=r1.get hx;refine AQ W he h1 m1 hu hne λg g' b1 b2 b3 b4 b5=>?_;have hT:H s.sz=none:=I.hok.fresh (h_ _);have ne:∀c∈[e,i],c<s.sz:=λc hc=>by
   simp only[s_,OR,P_]at hc;rcases hc with rfl | rfl
   .exact r_ he
   .obtain⟨o,ho,_⟩:=W.obj h1;exact r_ ho
  have I1:L2.Inv X pins σ H {s with heap:=g,toks:=s.toks+1}:=k9 I hf λc o hc q=>b4 c o (λz=>hc (by simp[z])) (λz=>hc (by simp[z])) q;have I2:L2.Inv X pins σ (upd H g.objs.size (.tup [.int n,x])) {s with heap:=g.push {cls:=.type "tuple",data:=.seq #[.int n s.toks,u]},toks:=s.toks+1}:=
   I1.laid (λc o q=>e_ _ q) (h_ _) (show bp X.prog X.w _ _ _ (.tup [.int n,x])from⟨by have:=OJ;simp;lia,[.int n s.toks,u],.cons ⟨_,rfl⟩ (.cons ru .nil),IsTup.new _ _⟩)
  rw[b3]at I2;have fz:∀c∈[e,i],bR X pins (upd H s.sz (.tup [.int n,x])) c:=λc hc=>⟨by rw[aH (y_ (ne c hc))];exact(hf c hc).1,(hf c hc).2⟩;have I3:L2.Inv X pins σ (upd H s.sz (.tup [.int n,x])) {s with heap:=g',toks:=s.toks+1}:=k9 (s:={s with heap:=g.push {cls:=.type "tuple",data:=.seq #[.int n s.toks,u]},toks:=s.toks+1}) (ch:=[e]) I2 (λc hc=>fz c (by simp at hc;simp[hc])) λc o hc q=>b5 c o (λz=>hc (by simp[z])) q;refine⟨_,rfl,Ga b1 λg2 uN s2=>?_⟩;have I4:L2.Inv X pins σ (upd H s.sz (.tup [.int n,x])) {s with heap:=g2,toks:=s.toks+1}:=k9 (s:={s with heap:=g',toks:=s.toks+1}) (ch:=[e]) I3 (λc hc=>fz c (by simp at hc;simp[hc])) λc o hc q=>s2.extBut c o (λz=>hc (by simp[z])) q;refine⟨.ref s.sz,_,I4,rfl,⟨s.sz,hT,rfl,λxs' x' p1 m8=>?_⟩,⟨⟨u,uN⟩,W.itx b2 (Hy s2.extBut (Pw hne))⟩,λc hc=>(fz c hc).1⟩;cases K1.inj hK I q1 p1;rw[hx]at m8;cases m8
  rfl
 done:=by
  intro X hP hw hK hc n pins s σ H E I hf st hg;subst hP hw;obtain⟨⟨old,he⟩,h1⟩:=st;obtain⟨xs,q1,hl⟩:=hg;obtain⟨us,r1,m1⟩:=K1.get hK I q1;have e1:=r1.length;refine zR (I.ok.hd hc) W he h1 m1 (Ou (by lia)) λg' kk=>⟨rfl,?_⟩;exact k9 (ch:=[i]) I (λc hc=>hf c (by simp at hc;simp[hc])) λc o hc q=>kk c o (λz=>hc (by simp[z])) q
 self:=λ_ n _ _ _ ⟨⟨_,he⟩,_⟩ h=>RP he h
abbrev Nr(c:String)(h:SH)(l:SM):SH:=(Kv c h l).push {cls:=.type "enumerate",data:=.fields #[.none,.bool false,.ref h.objs.size,rawInt 0,.none,.none]}
theorem xw(l:SM)(items:Array SC)(n:Nat)(dct:Ss)(sl:Sl):Meets (Builtin.«enumerate.__new__» ⟨[.type "enumerate",.ref l],[]⟩) (λ_ R s=>s.heap.get? l=some {cls:=.type "tuple",dict:=dct,data:=.seq items n,slots:=sl}/\
   R (.ok (.ret (.ref (Kv "tuple_iterator" s.heap l).objs.size))) {s with heap:=Nr "tuple_iterator" s.heap l}):=
 .of_wp λprog w A R s h=>by
  obtain⟨hp,g,d,tk,os⟩:=s;obtain⟨hl,h⟩:=h;have hsub:=sub_enumerate;have hL:Heap.IsTuple (Shared.heap ⟨hp,g,d,tk,os⟩) l items:=⟨_,hl,rfl,n,rfl⟩
  wp_walk using PY hl
  refine wpAny_stack_any λst=>d_ ?_
  split
  .rename_i c _ _ _ _ _;cases(c==Value.type "enumerate")
   .wp_walk using PY hl,QJ hL
    exact⟨_,rfl,h⟩
   .wp_walk using PY hl,QJ hL
    exact⟨_,rfl,h⟩
  .wp_walk using PY hl,QJ hL
   exact⟨_,rfl,h⟩
theorem tW(hL:s.heap.IsTuple l items)
  (h:∀h',IsEnum h' (s.sz+1) s.sz 0 .none->h'.IsTupleIter s.sz l 0->(∀b o,s.heap.get? b=some o->h'.get? b=some o)->Q (.ref (s.sz+1)) {s with heap:=h'}) :
  wpAny (model prog w) A (call (.type "enumerate") [.ref l]) Q E s:=by
 obtain⟨⟨c,dct,dt,sl⟩,hl,hc,n,hd⟩:=hL
 replace hc:c=.type "tuple":=hc
 replace hd:dt=.seq items n:=hd
 subst hc hd;refine callType_new F.called_enumerate (by decide) (F.typeCall_enumerate_1 _) (F.newCall_enumerate_1 _) (λobj=>F.args_object_init_2 obj _) F.entry_enumerate_new (xw l items n dct sl) ⟨hl,?_⟩;have hz:(Kv "tuple_iterator" s.heap l).objs.size=s.sz+1:=RE ..;show _/\_;rw[hz];have he:IsEnum (Nr "tuple_iterator" s.heap l) (s.sz+1) s.sz 0 .none:=by
  have:=n_ (Kv "tuple_iterator" s.heap l) (o:={cls:=.type "enumerate",data:=.fields #[.none,.bool false,.ref s.sz,rawInt 0,.none,.none]}) rfl;rw[hz]at this;exact this
 exact⟨⟨_,he,rfl⟩,h _ he ⟨_,e_ _ (n_ _ rfl),rfl,rfl⟩ λb o x=>e_ _ (e_ _ x)⟩
section
variable {X:Cx}{es:Sw}{kk:Nat}{tp:Pos}
theorem tO:bootBuiltins "enumerate"=some (.type "enumerate"):=by decide +kernel
def Iw(K:Fg)(ta:TA):TI:=λσ H R=>ta σ H λvs H1=>∃(l:SM)(xs:SX),vs=[.ref l]/\((cH K H1 l xs/\R (KI (λH xs=>cH K H l xs)) H1)\/(cT K H1 l xs/\R (KI (λH xs=>cT K H l xs)) H1))
theorem Dy(hg:Gl X "enumerate")(hm:X.mg "enumerate"=none)(ha:PA X [a] ta)(hs:starEach [a] X.env=[(false,eval a X.env)]:=by rfl):PI X (.Tuple es kk tp) (.Call (.Name "enumerate" p) [a] [] pos) (Iw X.K ta):=by
 intro pins s σ H R I h;refine Call_ (gM I hg hm tO (Pe (br (ha pos pins s σ H _ I h) λus s1 aG=>?_) hs rfl));obtain⟨vs,H1,I1,r1,q1⟩:=aG;obtain⟨l,xs,e,q⟩:=q1;subst e;obtain⟨u,rfl,ru⟩:=vals1 r1;cases ru;have fp:∀b∈[s1.sz+1,s1.sz],bR X pins H1 b:=λb hb=>by
  have yc:s1.sz<=b:=by
   simp only[s_,OR,P_]at hb;rcases hb with rfl | rfl
   .exact QP _
   .exact h_ _
  exact I1.fpOk yc (I1.hok.fresh yc)
 rcases q with ⟨m,q⟩ | ⟨m,q⟩
 .obtain⟨us,_,p1,_⟩:=I1.tuple m;refine tW (show s1.heap.IsTuple l us.toArray from p1) λh' he hi old=>RP he ?_;exact⟨s1.sz+1,_,_,_,H1,rfl,I1.kept old,n8 (LZ _ _) (LQ l) (RY _),⟨⟨_,he⟩,hi⟩,fp,q⟩
 .obtain⟨us,_,p1,_⟩:=I1.list m;refine call_enumerate_list p1.isList λh' he hi _ old=>RP he ?_;exact⟨s1.sz+1,_,_,_,H1,rfl,I1.kept old,n8 (K' _ _) (LS l) (RY _),⟨⟨_,he⟩,hi⟩,fp,q⟩
def iq:Nat->SV->SV
 | _,[]=>[]
 | n,d::ds=>.tup [.int (n:Int),d]::iq (n+1) ds
theorem fE:∀(n:Nat)(ds:SV),(iq n ds).length=ds.length
 | _,[]=>rfl
 | n,d::ds=>by simp[iq,fE (n+1) ds]
theorem jw:∀{n:Nat}{ds:SV}{i:Nat}{d:D},ds[i]?=some d->(iq n ds)[i]?=some (.tup [.int ((n+i:Nat):Int),d])
 | n,[],i,d,h=>by simp at h
 | n,x::ds,0,d,h=>by cases h;rfl
 | n,x::ds,i+1,d,h=>by
  show(iq (n+1) ds)[i]?=_;rw[jw (by simpa using h),show n+1+i=n+(i+1) by lia]
theorem n9{K:Fg}{Z1:Hp}{S:Hp->SX->Prop}{vs:SX}{xs:SV}(m1:∀{H H'},aK H H'->S H vs->S H' vs)(q1:S Z1 vs)(r1:ar K Z1 xs vs):Walk K Z1 (iq 0 xs) (KI S):=λZ' H' s1 s2 i=>by
 have l1:=r1.len;have w1:=m1 (s1.trans s2) q1;rw[fE];refine⟨λhi=>?_,λhi=>⟨vs,w1,by lia⟩⟩;have h1:i<vs.length:=by lia
 refine⟨⟨vs,vs[i],w1,f_ h1⟩,λx H'' ⟨q,hq,e,hy⟩=>?_⟩;subst e;have e2:=hy vs _ w1 (f_ h1);subst e2;obtain⟨d1,e1,p1⟩:=r1.getV (f_ h1);have s3:aK Z' (upd Z' q (.tup [.int (i:Nat),vs[i]])):=dW (s2.free hq);exact⟨_,_,Ex.new s2 hq,jw e1,q,_,rfl,cH.of ax,ar.mono s3 _ ⟨_,_,rfl,by rw[Oy];rfl,_,_,rfl,Rep.mono s1 _ p1,rfl⟩⟩
def yi(f:Fe):Fi:=λenv=>(f env).bind λd=>match d with
 | .tup xs=>some (iq 0 xs)
 | .lst xs=>some (iq 0 xs)
 | _=>none
theorem pH(hm:X.mg "enumerate"=none)(h:PD X .cl l f)(hg:Gl X "enumerate":=by rfl)(hs:starEach [l] X.env=[(false,eval l X.env)]:=by rfl):ID X (.Tuple es kk tp) (.Call (.Name "enumerate" p) [l] [] pos) (yi f):=
 PI.imp (Dy hg hm (bF h c6 hs) hs) λσ H R aG=>by
  obtain⟨env,B,Z,ds,Rr,e,k⟩:=aG;obtain⟨d,e1,e2⟩:=b_.mp e;cases d<;>cases e2
  .refine⟨env,B,Z,_,Rr,e1,λv Z1 H1 x1 g1=>?_⟩;obtain⟨l1,vs,rfl,w1,r1⟩:=g1;exact⟨l1,vs,rfl,.inl ⟨cK x1.zh w1,k _ Z1 H1 x1 (n9 (λs q=>cK s q) w1 r1)⟩⟩
  .refine⟨env,B,Z,_,Rr,e1,λv Z1 H1 x1 g1=>?_⟩;obtain⟨l1,vs,rfl,w1,r1⟩:=g1;exact⟨l1,vs,rfl,.inr ⟨x1.zh.seq w1,k _ Z1 H1 x1 (n9 (λs q=>s.seq q) w1 r1)⟩⟩
end
end Mi
namespace Mi
open PySem PySem.Spec PyProof.Rows L2
section
variable {X:Cx}{l r:SN}{fa fb:Fe}{ga gb:Gr}{pos p:Pos}{k:Nat}
def Ez(K:Fg):R2:=λx y H Q=>∃a b xs ys,x=.ref a/\y=.ref b/\cH K H a xs/\cH K H b ys/\xs.length+ys.length<=sizeLine/\(xs=[]->Q (.ref b) H)/\(xs≠[]->ys=[]->Q (.ref a) H)/\(xs≠[]->ys≠[]->∀p,H p=none->Q (.ref p) (upd H p (.tup (xs++ys))))
theorem BA:ip X (binaryOp .Add) (Ez X.K):=by
 intro pins s σ H x y v u Q I rx ry h;obtain⟨a,b,xs,ys,rfl,rfl,ha,hb,hz,q0,q1,q2⟩:=h
 by_cases hx:xs=[]
 .cases rx;cases ry;obtain⟨aX,r1,p1,_⟩:=I.tuple ha;obtain⟨uQ,r2,p2,_⟩:=I.tuple hb;obtain⟨⟨cls,dd,data,sl⟩,ho,hc,n,hd⟩:=id p1;obtain⟨⟨G2,DE,data2,Bq⟩,Br,qI,n2,hd2⟩:=id p2;simp only at hc hd qI hd2;subst hc hd qI hd2;have hi:aX=[]:=r1.nil_iff.mpr hx;exact concat_meets ⟨_,ho,rfl⟩ ⟨_,Br,rfl⟩ noFill_tuple_add seq_tuple_add QU QN (Qx _ _) (tuple_addW0 a b aX.toArray uQ.toArray n n2 dd DE sl Bq (by simp[hi])) ⟨ho,Br,⟨.ref b,H,I,rfl,q0 hx⟩⟩
 .exact Dx pins s σ H _ _ v u Q I rx ry ⟨a,b,xs,ys,rfl,rfl,ha,hb,hx,hz,q1 hx,q2 hx⟩
def l5:D->D->SW
 | .tup xs,.tup ys=>if xs.length+ys.length<=16000000 then some (.tup (xs++ys))else none
 | _,_=>none
theorem ar.nil_iff{K:Fg}{H:Hp}{ds:SV}{vs:SX}(h:ar K H ds vs):vs=[]↔ds=[]:=by
 have:=h.len;cases ds<;>cases vs<;>simp at this ⊢
theorem EJ{K:Fg}:cI K .cl l5 (Ez K):=λ{Z H x y dx dy d Q} s h1 h2 e kq=>by
 cases dx<;>try cases e
 all_goals (cases dy<;>try cases e)
 rename_i xs ys;obtain⟨hl,rfl⟩:=ma e;rcases h1 with h1 | ⟨_,_,_,_,e1,_⟩ | ⟨_,_,_,e1,_⟩ | ⟨_,_,_,_,_,e1,_⟩
 .rcases h2 with h2 | ⟨_,_,_,_,e1,_⟩ | ⟨_,_,_,e1,_⟩ | ⟨_,_,_,_,_,e1,_⟩
  .obtain⟨a,vs,rfl,q1,r1⟩:=id h1;obtain⟨b,us,rfl,q2,r2⟩:=id h2;refine⟨a,b,vs,us,rfl,rfl,cK s q1,cK s q2,by rw[<- r1.len,<- r2.len,OJ];lia,λz=>?_,λz1 z=>?_,λz1 z2 p hp=>?_⟩
   .have hx:=r1.nil_iff.mp z;subst hx;exact kq _ Z H (Ex.refl s) h2
   .have hy:=r2.nil_iff.mp z;subst hy;rw[O9]at kq;exact kq _ Z H (Ex.refl s) h1
   .have s1:aK Z (upd Z p (.tup (vs++us))):=dW (s.free hp);exact kq _ _ _ (Ex.new s hp) ⟨p,_,rfl,cH.of ax,ar.mono s1 _ (r1.app r2)⟩
  .cases e1
  .cases e1
  .cases e1
 .cases e1
 .cases e1
 .cases e1
theorem o7(ha:PD X ga l fa)(hb:PD X gb r fb):PD X .cl (.BinOp l .Add r pos) (ai l5 fa fb):=nk BA EJ ha hb
end
def Bj:Key->Key->Option Bool
 | .inl a,.inl b=>some (decide (a<b))
 | .inr a,.inr b=>some (decide (a.cps.toList<b.cps.toList))
 | _,_=>none
def dP:SR->SR->Option Bool
 | [],[]=>some false
 | [],_::_=>some true
 | _::_,[]=>some false
 | x::xs,y::ys=>if x=y then dP xs ys else Bj x y
inductive cM:List Value->List Key->Prop
 | nil:cM [] []
 | int (n:Int) (t:Tok) {vs ks}:cM vs ks->cM (.int n t::vs) (.inl n::ks)
 | str (x:Str) (t:Tok) {vs ks}:cM vs ks->cM (.str x t::vs) (.inr x::ks)
theorem cM.length:∀{vs:Sr}{ks:SR},cM vs ks->vs.length=ks.length
 | _,_,.nil=>rfl
 | _,_,.int _ _ h=>by simp[cM.length h]
 | _,_,.str _ _ h=>by simp[cM.length h]
theorem cM.of:∀{ks:SR}{us:Sr},av (ks.map kV) us->cM us ks
 | [],_,r=>by rw[R7]at r;cases r;exact .nil
 | .inl n::ks,_,r=>by
  rw[G_]at r;cases r with
  | cons h t=>obtain⟨tk,rfl⟩:=(show ∃t,_=Value.int n t from h);exact .int n tk (cM.of t)
 | .inr x::ks,_,r=>by
  rw[G_]at r;cases r with
  | cons h t=>obtain⟨tk,rfl⟩:=(show ∃t,_=Value.str x t from h);exact .str x tk (cM.of t)
theorem rB(A:SG)(s:SE)(a:Str)(t:Tok)(c:Str)(u:Tok)(prog:SF)(w:SI)(E:Sj)(Q:Sj)(h:Q (.bool (decide (a.cps.toList<c.cps.toList))) s) :
  wpAny (model prog w) A (richCompare .Lt (.str a t) (.str c u)) Q E s:=
 (PyProof.Rows.lt_str h:wpAny (model prog w) A (compareOp .Lt (.str a t) (.str c u)) Q E s)
section
open PySem.SeqAt
open PySem.AutoSeq1 (wpAny_loadPart')
open PySem.MeetsSeq PySem.MeetsSeq2 PySem.MeetsSeq3
theorem BU(hv:cM (y::vs) ns)(hw:cM (x::ws) ms):∃a c tz Bt,ns=a::tz/\ms=c::Bt/\cM vs tz/\cM ws Bt/\
  ∀(A:SG)(s:SE)(q:Bool),(if a=c then dP tz Bt else Bj a c)=some q->∃e,SeqAt.EqAt A s y x e/\(e=true↔a=c)/\(e=false->∀(prog:SF)(w:SI)(E:Sj)(Q:Sj),Q (.bool q) s->wpAny (model prog w) A (richCompare .Lt y x) Q E s):=by
 cases hv with
 | int n t tu=>
  cases hw with
  | int m u Hd=>
   refine⟨_,_,_,_,rfl,rfl,tu,Hd,λA s q hq=>⟨(n==m),SeqAt.EqAt.int_int n t m u,by simp,λhe=>?_⟩⟩;have hne:n≠m:=by simpa using he
   rw[l_ (λz=>hne (Sum.inl.inj z))]at hq;cases hq;exact λprog w E Q h=>HT.rf A s n t m u prog w E Q h
  | str y u Hd=>
   refine⟨_,_,_,_,rfl,rfl,tu,Hd,λA s q hq=>?_⟩;rw[l_ (λz=>nomatch z)]at hq;cases hq
 | str a t tu=>
  cases hw with
  | int m u Hd=>
   refine⟨_,_,_,_,rfl,rfl,tu,Hd,λA s q hq=>?_⟩;rw[l_ (λz=>nomatch z)]at hq;cases hq
  | str b u Hd=>
   refine⟨_,_,_,_,rfl,rfl,tu,Hd,λA s q hq=>⟨(a==b),SeqAt.EqAt.str_str a t b u,by simp,λhe=>?_⟩⟩;have hne:a≠b:=by simpa using he
   rw[l_ (λz=>hne (Sum.inr.inj z))]at hq;cases hq;exact λprog w E Q h=>rB A s a t b u prog w E Q h
theorem nr(l b:SM)(items items2:Array SC)(n n2:Nat)(dd DE:Ss)(sl Bq:Sl)(ns ms:SR)(q:Bool)(hi:cM items.toList ns)(hj:cM items2.toList ms)(hq:dP ns ms=some q) :
  Meets (Builtin.«tuple.__lt__» ⟨[.ref l,.ref b],[]⟩)
   (λ_ R s=>s.heap.get? l=some {cls:=.type "tuple",dict:=dd,data:=.seq items n,slots:=sl}/\s.heap.get? b=some {cls:=.type "tuple",dict:=DE,data:=.seq items2 n2,slots:=Bq}/\R (.ok (.ret (.bool q))) s):=
 .of_wp λprog w A R s h=>by
  obtain⟨hp,g,d,tk,os⟩:=s;obtain⟨hl,hb,h⟩:=h;have f2:=AutoSeq1.sub_tuple_tuple;have z1:items.size=ns.length:=by rw[<- hi.length];simp
  have z2:items2.size=ms.length:=by rw[<- hj.length];simp
  wp_walk using wpAny_loadPart' hl,wpAny_loadPart' hb,Qo _ (λrest b s'=>b.1=none/\s'=⟨hp,g,d,tk,os⟩/\∃(vs ws:Sr)(tz Bt:SR),rest=vs.zip ws/\
   cM vs tz/\cM ws Bt/\tz.length+items2.size=Bt.length+items.size/\dP tz Bt=some q) _
  case turn=>
   rintro⟨y,x⟩ rest b s' ⟨yc,rfl,vs,ws,tz,Bt,hz,HJ,NJ,hlen,hR⟩;cases vs with
   | nil=>rw[List.zip_nil_left]at hz;cases hz
   | cons v vs=>
    cases ws with
    | nil=>rw[List.zip_nil_right]at hz;cases hz
    | cons w' ws=>
     rw[P7]at hz
     injection hz with hyx hrest
     injection hyx with hy hx
     subst hy hx;obtain⟨a,c,NK,MH,rfl,rfl,hv1,hw1,ask⟩:=BU HJ NJ;have MI:(if a=c then dP NK MH else Bj a c)=some q:=hR;obtain⟨e,he,hiff,hlt⟩:=ask A.in1 ⟨hp,g,d,tk,os⟩ q MI;simp only[H_]at hlen;refine a_ (he prog w _ _ ?_);cases e with
     | true=>
      rw[k_ (hiff.mp rfl)]at MI
      wp_walk
      exact⟨rfl,rfl,_,_,_,_,hrest,hv1,hw1,by lia,MI⟩
     | false=>
      have hri:=hlt rfl prog w
      wp_walk using hri
      exact⟨_,rfl,by simpa using h⟩
  case fin=>
   rintro⟨b1,b2⟩ s' ⟨yc,rfl,vs,ws,tz,Bt,hz,HJ,NJ,hlen,hR⟩;simp only at yc;subst yc;have l1:=HJ.length;have l2:=NJ.length;have hv:q=decide (items.size<items2.size):=by
    cases tz with
    | nil=>
     cases Bt with
     | nil=>
      simp only[Pr]at hlen;cases hR;exact(Ot (by lia)).symm
     | cons c MH=>
      simp only[Pr,H_]at hlen;cases hR;exact(v_ (by lia)).symm
    | cons a NK=>
     cases Bt with
     | nil=>
      simp only[Pr,H_]at hlen;cases hR;exact(Ot (by lia)).symm
     | cons c MH=>
      cases vs with
      | nil=>simp at l1
      | cons v vs=>
       cases ws with
       | nil=>simp at l2
       | cons w' ws=>rw[P7]at hz;cases hz
   rw[hv]at h
   wp_walk
   exact⟨_,rfl,by simpa [Builtin.Tuple.tupleCompareSizes]using h⟩
  case h=>
   exact⟨rfl,rfl,items.toList,items2.toList,ns,ms,rfl,hi,hj,by lia,hq⟩
end
section
variable {X:Cx}{l r:SN}{fa fb:Fe}{ga gb:Gr}{pos p:Pos}{k:Nat}
def IP(K:Fg):R2:=λx y H Q=>∃a b ns ms q,x=.ref a/\y=.ref b/\cH K H a (ns.map kV)/\cH K H b (ms.map kV)/\dP ns ms=some q/\Q (.bl q) H
theorem F0(hu:X.A.units<cLine):ip X (compareOp .Lt) (IP X.K):=by
 intro pins s σ H x y v u Q I rx ry h;obtain⟨a,b,ns,ms,c,rfl,rfl,ha,hb,hc,q⟩:=h;cases rx;cases ry;obtain⟨aX,r1,p1,_⟩:=I.tuple ha;obtain⟨uQ,r2,p2,_⟩:=I.tuple hb;obtain⟨⟨cls,dd,data,sl⟩,ho,g0,n,hd⟩:=id p1;obtain⟨⟨G2,DE,data2,Bq⟩,Br,qI,n2,hd2⟩:=id p2;simp only at g0 hd qI hd2;subst g0 hd qI hd2;exact richCompare_meets_room (op:=.Lt) ⟨_,ho,rfl⟩ ⟨_,Br,rfl⟩ PySem.F.slot_tuple_lt PySem.F.entry_tuple_lt (PySem.F.args_tuple_lt_2 _ _) (nr a b aX.toArray uQ.toArray n n2 dd DE sl Bq ns ms c (by simpa using cM.of r1) (by simpa using cM.of r2) hc)
  ⟨ho,Br,show Value.bool c≠Value.notImplemented/\EP X pins σ Q (.bool c) s from⟨(λz=>nomatch z),⟨.bl c,H,I,rfl,q⟩⟩⟩ hu
def mV:SV->Option SR
 | []=>some []
 | .int i::r=>(mV r).bind λks=>some (.inl i::ks)
 | .str x::r=>(mV r).bind λks=>some (.inr x::ks)
 | _=>none
theorem eY{K:Fg}{H:Hp}:∀{ds:SV}{ks:SR}{vs:SX},mV ds=some ks->ar K H ds vs->vs=ks.map kV
 | [],ks,vs,h,r=>by cases h;exact r
 | d::ds,ks,vs,h,r=>by
  obtain⟨v,rr,e,h1,h2⟩:=r;subst e;cases d<;>try cases h
  .obtain⟨ig,e1,e2⟩:=b_.mp h;cases e2;cases(show v=_ from h1);rw[eY e1 h2];rfl
  .obtain⟨ig,e1,e2⟩:=b_.mp h;cases e2;cases(show v=_ from h1.1);rw[eY e1 h2];rfl
def Jf:D->D->SW
 | .tup xs,.tup ys=>(mV xs).bind λns=>(mV ys).bind λms=>(dP ns ms).bind λq=>some (.bl q)
 | _,_=>none
theorem HS{K:Fg}:cI K .cl Jf (IP K):=λ{Z H x y dx dy d Q} s h1 h2 e kq=>by
 cases dx<;>try cases e
 all_goals (cases dy<;>try cases e)
 obtain⟨ns,e1,e⟩:=b_.mp e;obtain⟨ms,e2,e⟩:=b_.mp e;obtain⟨q,e3,e⟩:=b_.mp e;cases e;obtain⟨a,vs,rfl,q1,r1⟩:=h1.tup s;obtain⟨b,us,rfl,q2,r2⟩:=h2.tup s;cases eY e1 r1;cases eY e2 r2;exact⟨a,b,ns,ms,q,rfl,rfl,q1,q2,e3,kq _ Z H (Ex.refl s) rfl⟩
theorem H9(hr:b8 k X.A)(ha:PD X ga l fa)(hb:PD X gb r fb):PD X .cl (.Compare l [.Lt] [r] pos) (ai Jf fa fb):=vR (F0 (by have:=hr.un;lia)) HS ha hb (gF _)
end
end Mi
namespace Mi
open PySem PySem.Spec PyProof.Rows L2
section
variable {prog:SF}{w:SI}{A:SG}{E:Sj}{s:SE}{z TI TO i1 i2 l1 l2 T:SM}{k1 k2:Nat}{xs ys:Sr}{x y:SC}{oT:Obj}{bz:Bool}
end
section
variable {prog:SF}{w:SI}{A:SG}{E:Sj}{s:SE}{z TI TO i1 i2 l1 l2:SM}{xs ys:Sr}
end
section
variable {X:Cx}{l r:SN}{fa fb:Fe}{pos pos2 p p2:Pos}
end
section
variable {X:Cx}
variable {l r q:SN}{fa fb fc:Fe}{ga gb gc:Gr}{pos p:Pos}
end
def vQ:SR->Bool
 | .inl _::_=>true
 | _=>false
section
variable {prog:SF}{w:SI}{A:SG}{E:Sj}{s:SE}
theorem F2:∀{xs ys:Sr}{ks js:SR}{q:Bool}{i:Nat},cM xs ks->cM ys js->dP ks js=some q->(i=0->vQ ks=true/\vQ js=true)->Q q s->
  PySem.W.KatLex prog w A true (decide (xs.length<ys.length)) Q (xs.zip ys) i s
 | _,_,_,_,q,i,.nil,.nil,h,_,hq=>by
  cases h;exact QG (by simpa using hq)
 | _,_,_,_,q,i,.nil,.int _ _ r,h,_,hq=>by cases h;exact QG (by simpa using hq)
 | _,_,_,_,q,i,.nil,.str _ _ r,h,_,hq=>by cases h;exact QG (by simpa using hq)
 | _,_,_,_,q,i,.int _ _ r,.nil,h,_,hq=>by cases h;exact QG (by simpa using hq)
 | _,_,_,_,q,i,.str _ _ r,.nil,h,_,hq=>by cases h;exact QG (by simpa using hq)
 | _,_,_,_,q,i,.int n t r1,.str y u r2,h,_,hq=>by
  have h':(if(Sum.inl n:Key)=.inr y then _ else Bj (.inl n) (.inr y))=some q:=h;rw[l_ (λz=>nomatch z)]at h';cases h'
 | _,_,_,_,q,i,.str x t r1,.int m u r2,h,_,hq=>by
  have h':(if(Sum.inr x:Key)=.inl m then _ else Bj (.inr x) (.inl m))=some q:=h;rw[l_ (λz=>nomatch z)]at h';cases h'
 | _,_,_,_,q,i,@cM.int n t xs ks r1,@cM.int m u ys js r2,h,h0,hq=>by
  have h':(if(Sum.inl n:Key)=.inl m then dP ks js else Bj (.inl n) (.inl m))=some q:=h;refine PySem.W.kat_cons (SeqAt.EqAt.int_int n t m u prog w _ _ ?_)
  by_cases e:n=m
  .subst e;rw[k_ rfl]at h';rw[show(n==n)=true by simp];refine PySem.W.kat_yes ?_;have:=F2 (i:=i+1) r1 r2 h' (λz=>by lia) hq;rw[show ∀(a b:SC),decide ((a::xs).length<(b::ys).length)=decide (xs.length<ys.length)from λa b=>by simp];exact this
  .rw[l_ (λz=>e (Sum.inl.inj z))]at h';cases h';rw[show(n==m)=false by simpa using e];refine PySem.W.kat_no ?_
   by_cases hi:i=0
   .subst hi;exact oneLt_int hq
   .rw[show(true&&i==0)=false by simp[hi]];exact PySem.W.kat_one _ _ (HT.rf A s n t m u prog w _ _ hq)
 | _,_,_,_,q,i,@cM.str x t xs ks r1,@cM.str y u ys js r2,h,h0,hq=>by
  have h':(if(Sum.inr x:Key)=.inr y then dP ks js else Bj (.inr x) (.inr y))=some q:=h;have hi:i≠0:=λz=>by have:=(h0 z).1;cases this
  refine PySem.W.kat_cons (SeqAt.EqAt.str_str x t y u prog w _ _ ?_)
  by_cases e:x=y
  .subst e;rw[k_ rfl]at h';rw[show(x==x)=true by simp];refine PySem.W.kat_yes ?_;have:=F2 (i:=i+1) r1 r2 h' (λz=>by lia) hq;rw[show ∀(a b:SC),decide ((a::xs).length<(b::ys).length)=decide (xs.length<ys.length)from λa b=>by simp];exact this
  .rw[l_ (λz=>e (Sum.inr.inj z))]at h';cases h';rw[show(x==y)=false by simpa using e];refine PySem.W.kat_no ?_;rw[show(true&&i==0)=false by simp[hi]];exact PySem.W.kat_one _ _ (rB A s x t y u prog w _ _ hq)
end
def cE(h:SH):Sr->SQ->Prop
 | [],[]=>True
 | v::vs,ks::kss=>(∃a o xs n,v=.ref a/\h.get? a=some o/\o.cls=.type "tuple"/\o.data=.seq xs n/\cM xs.toList ks)/\cE h vs kss
 | _,_=>False
theorem cE.keeps(k:∀a o,h.get? a=some o->o.cls=.type "tuple"->h'.get? a=some o):∀{vs:Sr}{kss:SQ},cE h vs kss->cE h' vs kss
 | [],[],t=>t
 | [],_::_,t=>t.elim
 | _::_,[],t=>t.elim
 | _::_,_::_,⟨⟨a,o,xs,n,e,ho,hc,hd,r⟩,t⟩=>⟨⟨a,o,xs,n,e,k a o ho hc,hc,hd,r⟩,cE.keeps k t⟩
theorem cE.at:∀{vs:Sr}{kss:SQ}{i:Nat}{v:SC},cE h vs kss->vs[i]?=some v->∃a o xs n ks,v=.ref a/\h.get? a=some o/\o.cls=.type "tuple"/\o.data=.seq xs n/\kss[i]?=some ks/\cM xs.toList ks
 | [],[],i,v,_,e=>by simp at e
 | [],_::_,_,_,t,_=>t.elim
 | _::_,[],_,_,t,_=>t.elim
 | w::vs,ks::kss,0,v,⟨⟨a,o,xs,n,e,ho,hc,hd,r⟩,t⟩,e2=>by simp at e2;subst e2;exact⟨a,o,xs,n,ks,e,ho,hc,hd,rfl,r⟩
 | w::vs,ks::kss,i+1,v,⟨_,t⟩,e2=>by
  obtain⟨a,o,xs,n,ig,g⟩:=cE.at (i:=i) t (by simpa using e2);exact⟨a,o,xs,n,ig,by simpa using g⟩
theorem cE.firsts:∀{vs:Sr}{kss:SQ},cE h vs kss->kss.all vQ=true->∃fs,PySem.W.KatTups h vs fs/\fs.length=vs.length/\∀f∈fs,∃n t,f=Value.int n t
 | [],[],_,_=>⟨[],trivial,rfl,λ_ h=>by cases h⟩
 | [],_::_,t,_=>t.elim
 | _::_,[],t,_=>t.elim
 | w::vs,ks::kss,⟨⟨a,o,xs,n,e,ho,hc,hd,r⟩,t⟩,hh=>by
  rw[List.all_cons,A_]at hh;obtain⟨fs,h1,h2,h3⟩:=cE.firsts t hh.2;subst e;obtain⟨xs⟩:=xs;cases r with
  | nil=>cases hh.1
  | str x t r=>cases hh.1
  | int m tk r=>
   refine⟨.int m tk::fs,PySem.W.KatTups.cons ho hc hd (by simp) h1,by simp[h2],λf hf=>?_⟩;rcases s_.mp hf with rfl | hf
   .exact⟨_,_,rfl⟩
   .exact h3 f hf
section
variable {prog:SF}{w:SI}{A:SG}{E:Sj}{s:SE}
end
def jY:SV->Option SQ
 | []=>some []
 | .tup xs::r=>(mV xs).bind λks=>(jY r).bind λkss=>some (ks::kss)
 | _=>none
section
variable {X:Cx}{l r:SN}{fa fb:Fe}{ga gb:Gr}{pos p:Pos}
def rb(K:Fg)(H:Hp):SX->SQ->Prop
 | [],[]=>True
 | v::vs,ks::kss=>(∃a,v=.ref a/\cH K H a (ks.map kV))/\rb K H vs kss
 | _,_=>False
theorem rb.of{K:Fg}{Z:Hp}:∀{ds:SV}{vs:SX}{kss:SQ},jY ds=some kss->ar K Z ds vs->rb K Z vs kss
 | [],vs,kss,h,r=>by cases h;cases(show vs=[]from r);trivial
 | d::ds,vs,kss,h,r=>by
  obtain⟨v,rr,e,h1,h2⟩:=r;subst e;cases d<;>try cases h
  obtain⟨ks,e1,h⟩:=b_.mp h;obtain⟨kss',e2,h⟩:=b_.mp h;cases h;obtain⟨a,us,rfl,q,r1⟩:=h1;cases eY e1 r1;exact⟨⟨a,rfl,q⟩,rb.of e2 h2⟩
theorem rb.mono{K:Fg}{H H':Hp}(s:aK H H'):∀{vs:SX}{kss:SQ},rb K H vs kss->rb K H' vs kss
 | [],[],t=>t
 | [],_::_,t=>t.elim
 | _::_,[],t=>t.elim
 | _::_,_::_,⟨⟨a,e,q⟩,t⟩=>⟨⟨a,e,cK s q⟩,rb.mono s t⟩
theorem rb.heap{pins σ H s}(I:Inv X pins σ H s):∀{vs:SX}{us:Sr}{kss:SQ},rb X.K H vs kss->av vs us->cE s.heap us kss
 | [],_,[],t,r=>by cases r;trivial
 | [],_,_::_,t,_=>t.elim
 | _::_,_,[],t,_=>t.elim
 | _::_,_,_::_,⟨⟨a,e,q⟩,t⟩,r=>by
  subst e;cases r with
  | cons h r=>
   cases(show _=Value.ref a from h);obtain⟨aX,rv,⟨o,h1,h2,n',h3⟩,_⟩:=I.tuple q;exact⟨⟨a,o,aX.toArray,n',rfl,h1,h2,h3,by simpa using cM.of rv⟩,rb.heap I t r⟩
end
end Mi
namespace Mi
open PySem L2
mutual
theorem qX:∀(d:D),pl d=true->ib d d=true
 | .non,_=>by simp[ib]
 | .bl b,_=>by simp[ib]
 | .int i,_=>by simp[ib]
 | .str x,_=>by simp[ib]
 | .tup ds,h=>by unfold ib;exact jM ds (by unfold pl at h;exact h)
 | .lst ds,h=>by unfold ib;exact jM ds (by unfold pl at h;exact h)
 | .dct _,h=>by unfold pl at h;cases h
 | .st _,h=>by unfold pl at h;cases h
 | .ln _,h=>by unfold pl at h;cases h
 | .mp _ _ _,h=>by unfold pl at h;cases h
 | .ix _ _ _,h=>by unfold pl at h;cases h
theorem jM:∀(ds:SV),i9 ds=true->gC ds ds=true
 | [],_=>by simp[gC]
 | d::ds,h=>by
  unfold i9 at h;rw[A_]at h;unfold gC;rw[qX d h.1,jM ds h.2];rfl
end
theorem zp:∀(xs:SV),(∀x∈xs,pl x=true)->i9 xs=true
 | [],_=>by simp[i9]
 | x::xs,h=>by
  unfold i9;rw[h x j_,zp xs λy hy=>h y (i_ _ hy)];rfl
theorem BR(h:f env=some (.lst xs))(hp:i9 xs=true):ai cy f (bN fNil) env=some (.bl xs.isEmpty):=
 FK h rfl (L5 (by unfold fw nA;lia) (by unfold pl;rw[hp];rfl)) (Cq xs)
end Mi
namespace Mi
open PySem PySem.Spec PyProof.Rows L2
theorem pG:∀(l:List (α×β)),(l.map (·.1)).zip (l.map (·.2))=l
 | []=>rfl
 | (a,b)::l=>by rw[G_,G_,P7,pG l]
def kx(x:SA×SM):SR×SM:=(kk x.1,x.2)
theorem lh(hl:bs.length=ps.length):tF a ps bs h↔St.iB (tupleKind (aF P w)) a ((ps.zip bs).map kx) h:=by
 have e1:(ps.zip bs).map F7=((ps.zip bs).map kx).map (St.ent (tupleKind (aF P w))):=by rw[OA];rfl
 have e2:(((ps.zip bs).map kx).map (·.1)).Nodup↔ps.Nodup:=by
  rw[OA,show((λx:SR×SM=>x.1) ∘ kx)=kk ∘ (λx:SA×SM=>x.1)from rfl,<- OA,u5 hl.symm];exact xp λx y=>AA
 constructor
 .rintro⟨o,es,ep,t,h1,h2,h3,h4,h5,h6,h7,h8⟩;exact⟨o,es,ep,t,h1,h2,h3,⟨by rw[<- e1];exact h4,h5,h6,h7⟩,e2.mpr h8⟩
 .rintro⟨o,es,ep,t,h1,h2,h3,⟨h4,h5,h6,h7⟩,h8⟩;exact⟨o,es,ep,t,h1,h2,h3,by rw[e1];exact h4,h5,h6,h7,e2.mp h8⟩
theorem ux(a:SM)(ps:So)(bs:Sv):∀h1 h2:SH,tF a ps bs h1->(∀o,h1.get? a=some o->h2.get? a=some o)->tF a ps bs h2:=λh1 h2 ⟨o,es,ep,t,e,r⟩ k=>⟨o,es,ep,t,k o e,r⟩
def qJ(ps:So):So:=ps.foldl il []
def nH(xs:List (SA×SM))(x:SA×SM):List (SA×SM):=if x.1∈xs.map (·.1)then xs else xs++[x]
theorem CZ(xs:List (SA×SM))(x:SA×SM):(nH xs x).map kx=St.rP (xs.map kx) (kx x):=by
 unfold nH St.rP;have e:(kx x).1∈(xs.map kx).map (·.1)↔x.1∈xs.map (·.1):=by
  rw[OA,x_,x_];constructor
  .rintro⟨y,hy,e⟩;exact⟨y,hy,AA e⟩
  .rintro⟨y,hy,e⟩;exact⟨y,hy,by show kk y.1=kk x.1;rw[e]⟩
 by_cases h:x.1∈xs.map (·.1)
 .rw[k_ h,k_ (e.mpr h)]
 .rw[l_ h,l_ (λz=>h (e.mp z)),OB];rfl
theorem r9:∀(l xs:List (SA×SM)),(l.foldl nH xs).map (·.1)=(l.map (·.1)).foldl il (xs.map (·.1))
 | [],xs=>rfl
 | x::l,xs=>by
  rw[QE,r9 l,G_,QE];congr 1;unfold nH il
  by_cases h:x.1∈xs.map (·.1)
  .rw[k_ h,k_ h]
  .rw[l_ h,l_ h,OB];rfl
theorem rV:∀{l xs:List (SA×SM)}{y:SA×SM},y∈l.foldl nH xs->y∈xs\/y∈l
 | [],xs,y,h=>.inl h
 | x::l,xs,y,h=>by
  rcases rV (l:=l) h with h | h
  .unfold nH at h
   split at h
   .exact .inl h
   .rcases Oz.mp h with h | h
    .exact .inl h
    .exact .inr (by rw[u_.mp h];exact j_)
  .exact .inr (i_ _ h)
section
variable {X:Cx}{l r:SN}{fa fb:Fe}{ga gb:Gr}{pos p:Pos}{k:Nat}
def kO:SV->Option So
 | []=>some []
 | .tup [.int a,.int b]::r=>(kO r).bind λps=>some ((a,b)::ps)
 | _=>none
end
section
variable {prog:SF}{w:SI}{A:SG}{E:Sj}{s:SE}
end
section
variable {X:Cx}{l r:SN}{fa fb:Fe}{ga gb:Gr}{pos p:Pos}{k:Nat}
end
theorem AS(ks:So)(p q:SA):q∈il ks p↔q∈ks\/q=p:=by
 unfold il
 split
 .rename_i h;exact⟨λz=>.inl z,λz=>z.elim id λe=>e▸h⟩
 .simp
theorem mh:∀(l xs:So)(q:SA),q∈l.foldl il xs↔q∈xs\/q∈l
 | [],xs,q=>by simp
 | x::l,xs,q=>by rw[QE,mh l,AS,s_,or_assoc]
theorem jd(l:So)(q:SA):q∈qJ l↔q∈l:=by unfold qJ;rw[mh];simp
theorem rm(hf:∀p,f p=.tup [.int p.1,.int p.2]):∀(ps:So),kO (ps.map f)=some ps
 | []=>rfl
 | p::ps=>by rw[G_,hf];show(kO (ps.map f)).bind _=_;rw[rm hf ps];rfl
end Mi
namespace St
open PySem L2
section
variable {prog:SF}{w:SI}{A:SG}{E:Sj}{s:SE}
theorem pA(hu:A.in1.units<cLine)(hS:iB (tupleKind (aF prog w)) a xs s.heap)(Bm:∀x∈xs,(tupleKind (aF prog w)).is s.heap x.1 x.2)(gh:(tupleKind (aF prog w)).is s.heap k b)(hl:xs.length+1<=4914)
  (h:∀h' tk,Heap.SameBut a s.heap h'->iB (tupleKind (aF prog w)) a (rP xs (k,b)) h'->(∀L,Hw prog w b s.heap->Fl a L s.heap->Fl a L h')->Q .none {s with heap:=h',toks:=tk}):wpAny (model prog w) A (call (.builtin "set.add") [.ref a,.ref b]) Q E s:=by
 refine OE F.slot_set_add hS.typeIs F.entry_set_add ?_ (F.args_set_add_2 _ _);unfold Builtin.«set.add» Builtin.Frozenset.oneOther;simp only[List.isEmpty_nil,bind_assoc];unfold Builtin.Frozenset.addrOf;refine a_ (d_ ?_)
 try dsimp only
 refine a_ (d_ ?_)
 try dsimp only
 refine a_ ?_;refine xS hu hS Bm gh hl λr h' tk hsb hS' hF=>?_;show wpAny _ _ (ret Value.none) _ _ _;exact d_ ⟨_,rfl,h h' tk hsb hS' hF⟩
end
end St
namespace Mi
open PySem PySem.Spec PyProof.Rows L2
theorem qT:∀{ds:SV}{ps:So}(a b:Int),kO ds=some ps->kO (ds++[.tup [.int a,.int b]])=some (ps++[(a,b)])
 | [],ps,a,b,h=>by cases h;rfl
 | d::ds,ps,a,b,h=>by
  unfold kO at h
  split at h
  .rename_i heq;exact absurd heq (by simp)
  .rename_i a' b' r' e;cases e;obtain⟨qs,h1,h2⟩:=b_.mp h;cases h2;show(kO (ds++[.tup [.int a,.int b]])).bind _=_;rw[qT a b h1];rfl
  .cases h
section
variable {elt:SN}{gens:Sq}{scope:SL}{pos:Pos}{d:Nat}{tg iter:SN}{ifs:Sw}{it acc:SC}{env:Env}
end
structure NL(X:Cx)(pins:List (Addr×Obj))(a:Addr)(B Z H:Hp)(env:En)(σ:L2.St)(pre:List D)(s:Shared):Prop where
 I:Inv X pins σ H s
 R:Rl X.K B Z H env σ
 nO:∀(i:Nat) ds,env[i]?≠some (.O ds)
 hb:B a=none
 hz:Z a=none
 ac:∃(ps:List (Int×Int))(xs:List ((Int×Int)×Addr)),kO pre=some ps/\xs.map (·.1)=qJ ps/\H a=some (.ext (tF a (xs.map (·.1)) (xs.map (·.2))))/\∀x∈xs,cH X.K Z x.2 [.int x.1.1,.int x.1.2]
def LK(X:Cx)(a:SM)(Bd:BdT)(k:SS):Prop:=∀(pins:Sk)(s:SE)(σ:L2.St)(H B Z:Hp)(env:En)(pre xs:SV)(P:SE->Prop)(E:Sj),
 NL X pins a B Z H env σ pre s->k env=some xs->pre.length+xs.length<=4900->(∀s' σ' H' Z',NL X pins a B Z' H' env σ' (pre++xs) s'->Ex Z B Z' H'->P s')->Bd P E s
section
variable {X:Cx}{a:SM}{elt:SN}{fe:Fe}
end
section
variable {P:SF}{w:SI}{A:SG}{elt:SN}{gens:Sq}{scope:SL}{pos:Pos}{d:Nat}{tg iter:SN}{ifs:Sw}{it acc:SC}{env:Env}{R:Result->SE->Prop}{s:SE}
end
section
variable {X:Cx}{a:SM}{elt:SN}{gens:Sq}{scope:SL}{pos:Pos}{d:Nat}{tg iter tm bP:SN}{ifs kj:Sw}{it:SM}
end
structure BlkS(X:Cx)(a:Addr)(elt:Expr)(gens:List Comprehension)(scope:Scope)(pos:Pos)(d:Nat)(tg:Expr)(ifs:List Expr)(t:Ft)(c:Fb)(k:En->Option (List D)):Prop where
 g:GD X tg t
 ts:Bk X ifs c
 ex:∃Bd,LK X a Bd k/\∀(it:Addr)(s:Shared)(Q:Fin->Shared->Prop)(E:Value->Shared->Prop),
   wpAny (model X.prog X.w) X.A (pyNext (.ref it)) (λr s1=>match r with
    | none=>Q (.done .next) s1
    | some v=>wpAny (model X.prog X.w) X.A (letOwnedTupleGo tg (.ref it) v) (λ_ s2=>wpAny (model X.prog X.w) X.A (assign tg X.env v) (λ_ s3=>
      wpAny (model X.prog X.w) X.A (forIn ifs true λc r=>if r=true then do let ok <- isTrue c X.env (eval c X.env);pure (ForInStep.yield ok)else pure (ForInStep.yield r)) (λok s4=>
       if ok=true then Bd (λs5=>Q (.again (.compLoop (.SetComp elt gens scope pos) d (.ref it) (.ref a) X.env)) s5) E s4 else Q (.again (.compLoop (.SetComp elt gens scope pos) d (.ref it) (.ref a) X.env)) s4) E s3) E s2) E s1) E s->
   wpAny (model X.prog X.w) X.A (compTurn (.SetComp elt gens scope pos) d (.ref it) (.ref a) X.env) Q E s
section
variable {X:Cx}{a:SM}{elt:SN}{gens:Sq}{scope:SL}{pos:Pos}{d:Nat}{tg iter:SN}{ifs:Sw}{t:Ft}{c:Fb}{fe:Fe}
end
section
variable {X:Cx}{elt:SN}{rest:Sq}{scope:SL}{pos:Pos}{tg iter:SN}{ifs:Sw}{t:Ft}{c:Fb}{k:SS}{fi:Fi}{is caps:Sy}{cl:Sn}{Nc own:Su}
end
end Mi
namespace St
open PySem L2
section
variable {prog:SF}{w:SI}{K:Type}[DecidableEq K](knd:KeyKind prog w K)
inductive He(h:Heap):List (List K)->List Value->Prop
 | nil:He h [] []
 | cons {k:List K} {b:Addr} {ks:List (List K)} {vs:List Value}:(tupleKind knd).is h k b->He h ks vs->He h (k::ks) (.ref b::vs)
variable {knd}
variable {A:SG}{E:Sj}{s:SE}
end
section
variable {prog:SF}{w:SI}{K:Type}[DecidableEq K]{knd:KeyKind prog w K}{A:SG}{E:Sj}{s:SE}
end
end St
namespace Mi
open PySem PySem.Spec PyProof.Rows L2
section
variable {K:Type}[DecidableEq K]
end
section
variable {X:Cx}{rg:Gr}{l r:SN}{fa fb:Fe}{ga gb:Gr}{pos p:Pos}{k:Nat}
end
section
variable {X:Cx}{rg:Gr}{l r:SN}{fa fb:Fe}{ga gb:Gr}{pos p:Pos}{k:Nat}
end
section
variable {X:Cx}{rg:Gr}{pos:Pos}
end
section
variable {X:Cx}{i:SN}{fi:Fe}{pos p0 p1 p2 p3 p4:Pos}{k j1 j2 j3 j4:Nat}
end
end Mi
namespace Mi
open PySem PySem.Spec PyProof.Rows L2
section
open PySem.SeqAt
open PySem.AutoSeq1 (wpAny_loadPart')
open PySem.MeetsSeq PySem.MeetsSeq2 PySem.MeetsSeq3
end
section
variable {X:Cx}{l r:SN}{fa fb:Fe}{ga gb:Gr}{pos p:Pos}{k:Nat}
end
end Mi
namespace Mi
open PySem PySem.Spec PyProof.Rows L2
section
variable {X:Cx}{rg:Gr}{pos:Pos}
end
def iE:SQ->List α->SR->Option α
 | k::ks,d::ds,q=>if k=q then some d else iE ks ds q
 | _,_,_=>none
def cx:SQ->List α->SR->α->List α
 | k::ks,d::ds,q,x=>(if k=q then x else d)::cx ks ds q x
 | _,ds,_,_=>ds
instance decK(q:SR)(ks:SQ):Decidable (q∈ks):=decidable_of_iff ((ks.any λk=>decide (k=q))=true) (by simp)
def sZ(ks:SQ)(q:SR):SQ:=if q∈ks then ks else ks++[q]
def sW(ks:SQ)(ds:List α)(q:SR)(x:α):List α:=if q∈ks then cx ks ds q x else ds++[x]
def Ed(ks:SQ)(bs:Sv)(q:SR)(b:SM):Sv:=if q∈ks then bs else bs++[b]
theorem Du(ks:SQ)(q:SR):(sZ ks q).length<=ks.length+1:=by unfold sZ;split<;>simp
theorem oy(q:SR)(x:α):∀(ks:SQ)(ds:List α),(cx ks ds q x).length=ds.length
 | [],ds=>by cases ds<;>simp[cx]
 | _::_,[]=>by simp[cx]
 | k::ks,d::ds=>by simp[cx,oy q x ks ds]
theorem BO(h:ds.length=ks.length)(q:SR)(x:α):(sW ks ds q x).length=(sZ ks q).length:=by
 unfold sW sZ;split<;>simp[oy,h]
theorem BI(h:bs.length=ks.length)(q:SR)(b:SM):(Ed ks bs q b).length=(sZ ks q).length:=by
 unfold Ed sZ;split<;>simp[h]
theorem oG:∀{ks:SQ}{ds:List α},q∉ks->iE ks ds q=none
 | [],ds,_=>by cases ds<;>simp[iE]
 | _::_,[],_=>by simp[iE]
 | k::ks,d::ds,h=>by
  have h1:¬k=q:=λe=>h (by rw[e];exact j_);unfold iE;rw[l_ h1];exact oG λh2=>h (i_ _ h2)
theorem sk:∀{ks:SQ}{ds:List α},ds.length=ks.length->q∈ks->∃d,iE ks ds q=some d
 | [],_,_,h=>nomatch h
 | _::_,[],h,_=>by simp at h
 | k::ks,d::ds,hl,h=>by
  unfold iE
  by_cases e:k=q
  .exact⟨d,k_ e⟩
  .rw[l_ e];exact sk (by simpa using hl) ((s_.mp h).resolve_left λz=>e z.symm)
theorem B1(hl:ds.length=ks.length):(iE ks ds q).isSome=decide (q∈ks):=by
 by_cases h:q∈ks
 .obtain⟨d,e⟩:=sk hl h;rw[e,v_ h];rfl
 .rw[oG h,Ot h];rfl
theorem ar.repl{K:Fg}{H:Hp}{q:SR}{x:D}{y:V}(hx:Rep K H x y):∀{ks:SQ}{ds:SV}{vs:SX},ar K H ds vs->ar K H (cx ks ds q x) (cx ks vs q y)
 | [],ds,vs,h=>by
  have e1:cx [] ds q x=ds:=by cases ds<;>rfl
  have e2:cx [] vs q y=vs:=by cases vs<;>rfl
  rw[e1,e2];exact h
 | _::_,[],vs,h=>by cases(show vs=[]from h);exact h
 | k::ks,d::ds,_,⟨v,r,e1,h,t⟩=>by
  subst e1;unfold cx
  by_cases z:k=q
  .rw[k_ z,k_ z];exact⟨y,_,rfl,hx,ar.repl hx t⟩
  .rw[l_ z,l_ z];exact⟨v,_,rfl,h,ar.repl hx t⟩
theorem ar.put{K:Fg}{H:Hp}{q:SR}{x:D}{y:V}(hx:Rep K H x y){ks:SQ}{ds:SV}{vs:SX}(h:ar K H ds vs):ar K H (sW ks ds q x) (sW ks vs q y):=by
 unfold sW
 split
 .exact ar.repl hx h
 .exact h.app (ar.one hx)
theorem av.repl(hx:RelV y u):∀{ks:SQ}{vs:SX}{us:Sr},av vs us->av (cx ks vs q y) (cx ks us q u)
 | [],vs,us,h=>by
  have e1:cx [] vs q y=vs:=by cases vs<;>rfl
  have e2:cx [] us q u=us:=by cases us<;>rfl
  rw[e1,e2];exact h
 | _::_,_,_,.nil=>.nil
 | k::ks,_,_,.cons r t=>by
  unfold cx
  by_cases z:k=q
  .rw[k_ z,k_ z];exact .cons hx (av.repl hx t)
  .rw[l_ z,l_ z];exact .cons r (av.repl hx t)
theorem nR(hx:RelV y u):∀{vs:SX}{us:Sr},av vs us->av (vs++[y]) (us++[u])
 | _,_,.nil=>.cons hx .nil
 | _,_,.cons r t=>.cons r (nR hx t)
theorem av.put(hx:RelV y u)(h:av vs us):av (sW ks vs q y) (sW ks us q u):=by
 unfold sW
 split
 .exact av.repl hx h
 .exact nR hx h
theorem fy(k:SR)(ks:SQ)(b:SM)(bs:Sv)(u:SC)(us:Sr):ik (k::ks) (b::bs) (u::us)=(k,b,u)::ik ks bs us:=rfl
theorem kY:∀{ks:SQ}{bs:Sv}{us:Sr},bs.length=ks.length->us.length=ks.length->(ik ks bs us).map (·.1)=ks
 | [],_,_,_,_=>rfl
 | _::_,[],_,h,_=>by simp at h
 | _::_,_::_,[],_,h=>by simp at h
 | k::ks,b::bs,u::us,h1,h2=>by rw[fy,G_,kY (by simpa using h1) (by simpa using h2)]
theorem CN(h1:bs.length=ks.length)(h2:us.length=ks.length):(ik ks bs us).length=ks.length:=by
 have:=OZ List.length (kY h1 h2);simpa using this
theorem Ab(q:SR):∀{ks:SQ}{bs:Sv}{us:Sr},bs.length=ks.length->us.length=ks.length->(atKey (ik ks bs us) q).map (·.2)=iE ks us q
 | [],_,us,_,_=>by cases us<;>rfl
 | _::_,[],_,h,_=>by simp at h
 | _::_,_::_,[],_,h=>by simp at h
 | k::ks,b::bs,u::us,h1,h2=>by
  have ih:=Ab q (by simpa using h1) (by simpa using h2);rw[fy];unfold atKey at ih ⊢;unfold iE;rw[List.find?_cons]
  by_cases e:k=q
  .rw[k_ e,show decide ((k,b,u).1=q)=true by simpa using e];rfl
  .rw[l_ e,show decide ((k,b,u).1=q)=false by simpa using e];exact ih
theorem uh(q:SR)(h1:bs.length=ks.length)(h2:us.length=ks.length):(atKey (ik ks bs us) q).isSome=decide (q∈ks):=by
 rw[<- B1 h2,<- Ab q h1 h2,Option.isSome_map]
theorem rj(q:SR)(u':SC):∀{ks:SQ}{bs:Sv}{us:Sr},bs.length=ks.length->us.length=ks.length->(ik ks bs us).map (putAt q u')=ik ks bs (cx ks us q u')
 | [],_,us,_,_=>by cases us<;>rfl
 | _::_,[],_,h,_=>by simp at h
 | _::_,_::_,[],_,h=>by simp at h
 | k::ks,b::bs,u::us,h1,h2=>by
  rw[fy,G_,rj q u' (by simpa using h1) (by simpa using h2)];rw[show cx (k::ks) (u::us) q u'=(if k=q then u' else u)::cx ks us q u' from rfl,fy];congr 1;unfold putAt
  by_cases e:k=q
  .rw[k_ e,k_ e]
  .rw[l_ e,l_ e]
theorem qZ(q:SR)(b':SM)(u':SC):∀{ks:SQ}{bs:Sv}{us:Sr},bs.length=ks.length->us.length=ks.length->ik (ks++[q]) (bs++[b']) (us++[u'])=ik ks bs us++[(q,b',u')]
 | [],[],[],_,_=>rfl
 | [],_::_,_,h,_=>by simp at h
 | [],[],_::_,_,h=>by simp at h
 | _::_,[],_,h,_=>by simp at h
 | _::_,_::_,[],_,h=>by simp at h
 | k::ks,b::bs,u::us,h1,h2=>by
  rw[Pz,Pz,Pz,fy,fy,Pz,qZ q b' u' (by simpa using h1) (by simpa using h2)]
theorem uG(q:SR)(b:SM)(u:SC)(h1:bs.length=ks.length)(h2:us.length=ks.length):storedH (ik ks bs us) q b u=ik (sZ ks q) (Ed ks bs q b) (sW ks us q u):=by
 unfold storedH sZ Ed sW;rw[uh q h1 h2]
 by_cases h:q∈ks
 .rw[v_ h,k_ rfl,k_ h,k_ h,k_ h,rj q u h1 h2]
 .rw[Ot h,l_ (by simp),l_ h,l_ h,l_ h,qZ q b u h1 h2]
theorem CI(h:x∈ik ks bs us):∃i:Nat,ks[i]?=some x.1/\bs[i]?=some x.2.1:=by
 obtain⟨i,hi⟩:=Q7.mp h;obtain⟨a1,a2⟩:=PQ.mp hi;exact⟨i,a1,(PQ.mp a2).1⟩
theorem jF.put{K:Fg}{H:Hp}{ks:SQ}{bs:Sv}(r:jF K H ks bs)(hl:bs.length=ks.length){q:SR}{b:SM}(hq:cH K H b (q.map kV)):jF K H (sZ ks q) (Ed ks bs q b):=λi k b' h1 h2=>by
 unfold sZ at h1;unfold Ed at h2
 split at h1
 .rw[k_ ‹_›]at h2;exact r i k b' h1 h2
 .rw[l_ ‹_›]at h2
  by_cases hi:i<ks.length
  .rw[N_ hi]at h1;rw[N_ (by rw[hl];exact hi)]at h2;exact r i k b' h1 h2
  .rw[J_ (by lia)]at h1;rw[J_ (by rw[hl];lia)]at h2;have hz:i-ks.length=0:=by
    have:=(o_.mp h1).1;simp at this;lia
   rw[hz]at h1;rw[hl,hz]at h2;cases h1;cases h2;exact hq
theorem yw(P:SF)(w:SI):Gq (hashStr w)=entryOfKey (tupleKind (aF P w)):=by
 funext x;unfold Gq entryOfKey;congr 1
section
variable {P:SF}{w:SI}{a:SM}{ks:SQ}{bs:Sv}{vs:SX}{h:SH}
theorem Da(d:h.DictOfH (tupleKind (aF P w)) a (ik ks bs us))(hv:av vs us)(h1:bs.length=ks.length)(h2:us.length=ks.length)(hs:(a==sysModules)=false)(hz:ks.length<=16000000):fZ (hashStr w) a ks bs vs h:=by
 obtain⟨o,es,ep,e1,e2,e3,e4,_,e6⟩:=d;rw[kY h1 h2]at e6;exact⟨o,es,ep,us,e1,e2,e3,hv,by rw[e4,yw P w],e6,hs,hz,h1,h2⟩
theorem mW(th:Str->Int)(a:SM)(ks:SQ)(bs:Sv)(vs:SX):∀h1 h2:SH,fZ th a ks bs vs h1->(∀o,h1.get? a=some o->h2.get? a=some o)->fZ th a ks bs vs h2:=λh1 h2 ⟨o,es,ep,us,e,r⟩ k=>⟨o,es,ep,us,k o e,r⟩
end
section
variable {X:Cx}{rg:Gr}{l r:SN}{fa fb:Fe}{ga gb:Gr}{pos p:Pos}{k:Nat}
theorem kX{pins σ H s}(I:Inv X pins σ H s)(hq:cH X.K H b (q.map kV)):(tupleKind (aF X.prog X.w)).is s.heap q b:=by
 obtain⟨aX,rv,⟨o,h1,h2,n',h3⟩,_⟩:=I.tuple hq;exact⟨o,aX.toArray,n',h1,h2,h3,by simpa using jQ rv⟩
theorem zz{pins σ H s}(I:Inv X pins σ H s)(hc:H c=some (.ext (fZ (hashStr X.w) c ks bs vs)))(hp:jF X.K H ks bs) :
  ∃us,av vs us/\bs.length=ks.length/\us.length=ks.length/\s.heap.DictOfH (tupleKind (aF X.prog X.w)) c (ik ks bs us)/\(c==sysModules)=false/\ks.length<=16000000:=by
 have hS:fZ (hashStr X.w) c ks bs vs s.heap:=(show bp X.prog X.w H s.heap c (.ext (fZ (hashStr X.w) c ks bs vs))from I.hok c _ hc).1;obtain⟨o,es,ep,us,e1,e2,e3,hv,e4,e5,e6,e7,h1,h2⟩:=hS;refine⟨us,hv,h1,h2,⟨o,es,ep,e1,e2,e3,by rw[e4,yw X.prog X.w],λx hx=>?_,by rw[kY h1 h2];exact e5⟩,e6,e7⟩;obtain⟨i,a1,a2⟩:=CI hx;exact kX I (hp i _ _ a1 a2)
def KC:SV->Option SR
 | []=>some []
 | .int i::ds=>(KC ds).map (.inl i::·)
 | .str x::ds=>(KC ds).map (.inr x::·)
 | _=>none
theorem jo{K:Fg}{H:Hp}:∀{ds:SV}{vs:SX}{q:SR},ar K H ds vs->KC ds=some q->vs=q.map kV
 | [],vs,_,h,e=>by cases e;exact h
 | .int i::ds,_,_,⟨v,r,e1,h,t⟩,e=>by
  obtain⟨q',e2,rfl⟩:=Ow.mp e;rw[e1,jo t e2,show v=V.int i from h];rfl
 | .str x::ds,_,_,⟨v,r,e1,h,t⟩,e=>by
  obtain⟨q',e2,rfl⟩:=Ow.mp e;rw[e1,jo t e2,show v=V.str x from h.1];rfl
 | .non::_,_,_,_,e=>by cases e
 | .bl _::_,_,_,_,e=>by cases e
 | .tup _::_,_,_,_,e=>by cases e
 | .lst _::_,_,_,_,e=>by cases e
 | .dct _::_,_,_,_,e=>by cases e
 | .st _::_,_,_,_,e=>by cases e
 | .ln _::_,_,_,_,e=>by cases e
 | .mp _ _ _::_,_,_,_,e=>by cases e
 | .ix _ _ _::_,_,_,_,e=>by cases e
def Df:D->Option SR
 | .tup ts=>KC ts
 | _=>none
theorem v8{K:Fg}{Z H H0:Hp}{g:Gr}{d:D}{v:V}{q:SR}(s:aK Z H)(h:Gd K Z H0 H g d v)(e:Df d=some q):∃b,v=.ref b/\cH K H b (q.map kV):=by
 cases d<;>try cases e
 obtain⟨b,vs,rfl,hq,rr⟩:=h.tup s;rw[jo rr e]at hq;exact⟨b,rfl,hq⟩
open Classical in
noncomputable def HA(th:Str->Int):D->Option (SQ×SV)
 | .mp yb ks ds=>if yb=th then some (ks,ds)else none
 | _=>none
open Classical in
theorem zg(h:HA th d=some x):d=.mp th x.1 x.2:=by
 cases d<;>try cases h
 unfold HA at h;obtain⟨rfl,rfl⟩:=ma h
 rfl
open Classical in
theorem Em(th:Str->Int)(ks:SQ)(ds:SV):HA th (.mp th ks ds)=some (ks,ds):=by show(if th=th then some (ks,ds)else none)=_;rw[k_ rfl]
noncomputable def DS(th:Str->Int)(neg:Bool)(x y:D):SW:=(Df x).bind λq=>(HA th y).bind λm=>some (.bl (if neg then !decide (q∈m.1)else decide (q∈m.1)))
def Ih(K:Fg)(th:Str->Int)(neg:Bool):R2:=λx y H Q=>∃(b c:SM)(ks:SQ)(bs:Sv)(vs:SX)(q:SR),x=.ref b/\cH K H b (q.map kV)/\y=.ref c/\H c=some (.ext (fZ th c ks bs vs))/\jF K H ks bs/\Q (.bl (if neg then !decide (q∈ks)else decide (q∈ks))) H
theorem AX(hu:X.A.units+1<cLine)(neg:Bool):ip X (compareOp (if neg then .NotIn else .In)) (Ih X.K (hashStr X.w) neg):=by
 intro pins s σ H x y v u Q I rx ry h;obtain⟨b,c,ks,bs,vs,q,rfl,hq,rfl,hc,hp,qq⟩:=h;cases rx;cases ry;obtain⟨us,hv,h1,h2,dd,wj,hz⟩:=zz I hc hp;cases neg with
 | false=>
  refine wpAny_in_heap (RF hu) (kX I hq) wj dd ?_;rw[uh q h1 h2];exact⟨.bl _,H,I.tok _,rfl,qq⟩
 | true=>
  refine wpAny_notIn_heap (RF hu) (kX I hq) wj dd ?_;rw[uh q h1 h2];exact⟨.bl _,H,I.tok _,rfl,qq⟩
theorem Eg{K:Fg}{th:Str->Int}{neg:Bool}:cI K .cl (DS th neg) (Ih K th neg):=λ{Z H x y dx dy d Q} s h1 h2 e kq=>by
 obtain⟨q,e1,e⟩:=b_.mp e;obtain⟨m,e2,e3⟩:=b_.mp e;cases e3;cases zg e2;obtain⟨b,rfl,hq⟩:=v8 s h1 e1;obtain⟨c,rfl,bs,vs,hc,hp,rr⟩:=h2.mp s;exact⟨b,c,m.1,bs,vs,q,rfl,hq,rfl,hc,hp.mono s,kq _ Z H (Ex.refl s) rfl⟩
theorem Ij(hw:th=hashStr X.w)(hr:b8 k X.A)(ha:PD X ga l fa)(hb:PD X gb r fb)(hm:behindInMarks .In r=false:=by rfl):PD X .cl (.Compare l [.In] [r] pos) (ai (DS th false) fa fb):=by
 subst hw;exact vR (AX (vj hr) false) Eg ha hb hm
theorem JN(hw:th=hashStr X.w)(hr:b8 k X.A)(ha:PD X ga l fa)(hb:PD X gb r fb)(hm:behindInMarks .In r=false:=by rfl):PB X (.Compare l [.In] [r] pos) (fB (ai (DS th false) fa fb)):=by
 subst hw;exact l4 (AX (vj hr) false) Eg ha hb hm
end
section
variable {X:Cx}{rg:Gr}{l r:SN}{fa fb:Fe}{ga gb:Gr}{pos p:Pos}{k:Nat}
theorem yD(hw:th=hashStr X.w):PD X .nm (.Dict [] [] pos) (fC (.mp th [] [])):=λpins s σ H Q I hT=>by
 subst hw;obtain⟨env,B,Z,d,R,e,k⟩:=hT;cases e;have hf:=I.hok.fresh (h_ s.sz);have hd:fZ (hashStr X.w) s.sz [] [] [] (s.heap.push {cls:=.type "dict",data:=.dict #[]}):=⟨_,#[],0,[],n_ _ rfl,⟨rfl,rfl,rfl⟩,rfl,.nil,rfl,RD,by have:=I.big;simpa using (Rw this),by simp,rfl,rfl⟩;exact wpAny_Dict_empty ⟨.ref s.sz,_,I.laid (o:=.ext (fZ (hashStr X.w) s.sz [] [] [])) (λ_ _ q=>e_ _ q) (h_ _) ⟨hd,⟨_,n_ _ rfl⟩,mW _ _ _ _ _⟩,rfl,
  k _ Z _ (Ex.newL R.zh hf) ⟨s.sz,_,[],[],rfl,rfl,hf,⟨[],[],ax,λi p b h=>by simp at h,rfl⟩,R.zh.free hf⟩⟩
def setM(i:Nat)(f:Fe):Fs:=λenv=>(f env).bind λd=>match d with | .mp th ks ds=>some (.nx (env.set i (.O (.M th ks ds)))) | _=>none
theorem xq(h:I0 X.K rg (setM i f) E σ H):zm (T X.K .nm f) (rG i) E σ H:=by
 refine cN λ_ kq=>?_;obtain⟨env,B,Z,o,R,e,k⟩:=h;obtain⟨d,e1,e2⟩:=b_.mp e;cases d<;>cases e2;rename_i th ks ds;refine kq (⟨env,B,Z,_,R,e1,λv Z' H' x g=>?_⟩)
 all_goals clear kq
 obtain⟨a,yb,ig,J8,rfl,e3,h1,⟨bs,vs,h2,hp,rr⟩,h3⟩:=g;cases e3;refine k _ Z' H' (x.part R.bh) ((R.ext x).setO i (R.bh.free h1) h3 h2 (show cw X.K Z' a (.M th ks ds) _ from⟨bs,vs,rfl,hp,rr⟩) λj es hj hje hja=>?_);obtain⟨y,e4,b,us,e5,e6,_⟩:=R.sl j _ hje;rw[hja]at e4;cases e4;cases e5;rw[h1]at e6;cases e6
theorem Ae(i:Nat)(he:PD X .nm e fe)(hN:X.N.Nodup)(hi:X.N[i]?=some x:=by rfl)(hx:Loc X.env.scope x:=by first | exact Or.inl rfl | exact Or.inr rfl)(hs:swapsWith e (some (.Name x pos')) pos.line X.env=pure false:=by rfl)
  (hf:X.fn x=true\/X.env.scope.names.lookup x=some .local:=by first | exact .inl rfl | exact .inr rfl | assumption):SD X rg (.Assign [.Name x pos'] e pos) (setM i fe):=PS.imp (qj hN hi hx he hs hf) λE σ H h=>xq h
def yE(i:Nat):Fs:=λenv=>match env[i]? with
 | some (.O (.M th ks ds))=>some (.rt (.mp th ks ds))
 | _=>none
theorem zc(i:Nat)(hN:X.N[i]?=some x:=by rfl)(hv:wX X.env.scope x:=by first | exact Or.inl rfl | exact Or.inr (Or.inl rfl) | exact Or.inr (Or.inr rfl))(hd:(x==("__debug__":Str))=false:=by decide)
  (iP:(x==("__classdict__":Str))=false:=by decide):SD X .nm (.Return (some (.Name x p)) pos) (yE i):=PS.imp (uw (eO hN hv hd iP)) λE σ H aG=>by
 obtain⟨env,B,Z,o,R,e,k⟩:=aG;unfold yE at e
 split at e
 .rename_i th ks ds hi;cases e;obtain⟨y,e1,a,o,e2,e3,e4,r⟩:=R.sl i _ hi;obtain⟨bs,vs,rfl,hp,rr⟩:=r;subst e2;exact⟨_,e1,k _ Z H ⟨R.bh,aK.refl _,R.zh,λ_ _ h=>h,λ_ _ _ h=>h⟩ ⟨a,th,ks,ds,rfl,rfl,R.ob i _ a hi e1,⟨bs,vs,e3,hp,rr⟩,e4⟩⟩
 .cases e
def IQ(K:Fg)(th:Str->Int)(td ty tv:TE):TS:=λD σ H=>tv σ H λv H1=>td σ H1 λx H2=>ty σ H2 λy H3=>∃(a b:SM)(ks:SQ)(bs:Sv)(vs:SX)(q:SR),x=.ref a/\y=.ref b/\H3 a=some (.ext (fZ th a ks bs vs))/\jF K H3 ks bs/\cH K H3 b (q.map kV)/\ks.length<16000000/\
 (bs.length=ks.length->D.nx σ (upd H3 a (.ext (fZ th a (sZ ks q) (Ed ks bs q b) (sW ks vs q v)))))
theorem map_set{pins σ H s}(hu:A.units+1<cLine)(I:Inv X pins σ H s)
  (hc:H a=some (.ext (fZ (hashStr X.w) a ks bs vs))) (hp:jF X.K H ks bs) (hq:cH X.K H b (q.map kV)) (hl:ks.length<16000000) (rv:RelV v u)
  (h:∀s',bs.length=ks.length->Inv X pins σ (upd H a (.ext (fZ (hashStr X.w) a (sZ ks q) (Ed ks bs q b) (sW ks vs q v)))) s'->Q () s'):wpAny (model X.prog X.w) A (setItem (.ref a) (.ref b) u) Q E s:=by
 obtain⟨us,hv,h1,h2,dd,wj,hz⟩:=zz I hc hp;refine wpAny_setItem_heap (hsz:=by rw[CN h1 h2,OJ];lia) (RF hu) (kX I hq) dd λh' dd' hs'=>?_;rw[uG q b u h1 h2]at dd';have hnew:=Da dd' (av.put rv hv) (BI h1 q b) (BO h2 q u) wj (by have:=Du ks q;lia);have he:∃u,h'.get? a=some u:=by obtain⟨o,_,_,_,e,_⟩:=hnew;exact⟨o,e⟩
 exact h _ h1 (I.write (by rw[hc];exact True.intro) (.inl rfl) (λb u hb z=>(hs'.2 b hb).trans z) he ⟨hnew,he,mW _ _ _ _ _⟩)
theorem Cp(hu:X.A.units+1<cLine)(ho:PE X o td)(hi:PE X i ty)(hv:PE X value tv)(hs:swapsWith value (some (.Subscript o i pos')) pos.line X.env=pure false) :
  PS X (.Assign [.Subscript o i pos'] value pos) (IQ X.K (hashStr X.w) td ty tv):=by
 intro pins s σ H D I h;refine wpAny_Assign_Subscript (br (hv pins s σ H _ I h) λr s1 ⟨v,H1,I1,rv,q1⟩=>br (ho pins s1 σ H1 _ I1 q1) λu s2 ⟨x,H2,I2,rx,q2⟩=>br (hi pins s2 σ H2 _ I2 q2) λiv s3 aG=>?_) hs;obtain⟨y,H3,I3,ry,a,b,ks,bs,vs,q,ex,ey,hc,hp,hq,hl,q3⟩:=aG;subst ex ey;cases(show u=Value.ref a from rx);cases(show iv=Value.ref b from ry);exact map_set hu I3 hc hp hq hl rv λs4 z I4=>⟨σ,_,I4,q3 z⟩
open Classical in
noncomputable def Ai(th:Str->Int)(i:Nat)(fv fk:Fe):Fs:=λenv=>(fv env).bind λd=>(fk env).bind λkd=>(Df kd).bind λq=>match env[i]? with
 | some (.O (.M yb ks ds))=>if yb=th/\ks.length<16000000 then some (.nx (env.set i (.O (.M th (sZ ks q) (sW ks ds q d)))))else none
 | _=>none
open Classical in
theorem AB(i:Nat)(hw:th=hashStr X.w)(hr:b8 k X.A)(hv:PD X .cl value fv)(hk:PD X .cl key fk)(hN:X.N[i]?=some x:=by rfl)(HJ:wX X.env.scope x:=by first | exact Or.inl rfl | exact Or.inr (Or.inl rfl) | exact Or.inr (Or.inr rfl))
  (hd:(x==("__debug__":Str))=false:=by decide) (iP:(x==("__classdict__":Str))=false:=by decide)
  (hs:swapsWith value (some (.Subscript (.Name x px) key p2)) pos.line X.env=pure false:=by rfl) :
  SD X rg (.Assign [.Subscript (.Name x px) key p2] value pos) (Ai th i fv fk):=by
 subst hw;refine PS.imp (Cp (vj hr) (eO hN HJ hd iP) hk hv hs) λE σ H aG=>?_;obtain⟨env,B,Z,o,R,e,kq⟩:=aG;obtain⟨d,e1,e⟩:=b_.mp e;obtain⟨kd,e2,e⟩:=b_.mp e;obtain⟨q,e7,e⟩:=b_.mp e;refine⟨env,B,Z,d,R,e1,λv Z1 H1 x1 g1=>?_⟩
 split at e
 .rename_i yb ks ds hi;obtain⟨⟨rfl,hlen⟩,rfl⟩:=ma e;have R1:=R.ext x1;obtain⟨y,e3,c,o,e4,e5,e6,bs,vs,rfl,hp,rr⟩:=R1.sl i _ hi;subst e4;refine⟨_,e3,env,B,Z1,kd,R1,e2,λkv Z2 H2 x2 g2=>?_⟩;have R2:=R1.ext x2;obtain⟨b,rfl,hq⟩:=v8 x2.zh (show Gd X.K Z2 H1 H2 .cl kd kv from g2) e7;have hq0:cH X.K Z2 b (q.map kV):=by
   cases kd<;>try cases e7
   obtain⟨b',vs',e8,Bl,rr'⟩:=(show Rep X.K Z2 (.tup _) _ from g2);cases e8;rw[jo rr' e7]at Bl;exact Bl
  refine⟨c,b,ks,bs,vs,q,rfl,rfl,x2.h _ _ e5,(hp.mono x2.z).mono x2.zh,hq,hlen,λhl=>?_⟩;obtain⟨R3,x3⟩:=R2.wr hi e3 (show cw X.K _ c (.M _ (sZ ks q) (sW ks ds q d)) _ from⟨_,_,rfl,jF.put (hp.mono x2.z) hl hq0,ar.put (Rep.mono x2.z d g1) (ar.mono x2.z ds rr)⟩);exact kq σ _ _ (((x1.trans x2).part R.bh).transB x3) R3
 .cases e
end
section
variable {X:Cx}{rg:Gr}{l r:SN}{fa fb:Fe}{ga gb:Gr}{pos p:Pos}{k:Nat}
end
def era(Z:Hp)(a:SM):Hp:=λb=>if b=a then none else Z b
theorem mo:era Z a a=none:=k_ rfl
theorem pv(h:b≠a):era Z a b=Z b:=l_ h
theorem Rl.frzX{K:Fg}{B Z H:Hp}{env:En}{σ:L2.St}{w:qE}(R:Rl K B Z H env σ){i:Nat}{a:SM}{o:HO}(hi:env[i]?=some (.O w))(hs:σ[i]?=some (some (.ref a)))(ho:H a=some o)(hz:Z a=none)(r:cw K Z a w o):Rl K B (upd Z a o) H (env.set i (.F w.d)) σ:=by
 have hb:=R.ob i w a hi hs;have hl:i<env.length:=(o_.mp hi).1;have s1:aK Z (upd Z a o):=dW hz;have s2:aK (upd Z a o) H:=l9 R.zh ho;have DF:∀{j:Nat}{es:qE},(env.set i (.F w.d))[j]?=some (.O es)->i≠j:=λ{j es} h z=>by
  subst z;rw[D_ hl]at h;cases h
 refine⟨R.bh,s2,by simp[R.len],λj s h=>?_,λj fs b h h2=>?_,λj k fs gs b hne h1 h2 h3 h4=>?_⟩
 .by_cases hj:i=j
  .subst hj;rw[D_ hl]at h;cases h;exact⟨_,hs,_,rfl,(r.mono s1).rep ax⟩
  .rw[q_ hj]at h;obtain⟨y,e4,q⟩:=R.sl j s h;refine⟨y,e4,?_⟩;cases s with
   | un=>trivial
   | F d=>obtain⟨v,e5,q⟩:=q;exact⟨v,e5,Rep.mono s1 d q⟩
   | O fs=>
    obtain⟨b,J9,e5,e6,e7,q⟩:=q;refine⟨b,J9,e5,e6,?_,q.mono s1⟩;rw[aH (λz=>?_)]
    .exact e7
    .subst z;subst e5;exact R.ap i j w fs b hj hi h hs e4
 .have n:=DF h;rw[q_ n]at h;exact R.ob j fs b h h2
 .have n1:=DF h1;have n2:=DF h2;rw[q_ n1]at h1;rw[q_ n2]at h2;exact R.ap j k fs gs b hne h1 h2 h3 h4
theorem Ex.unfrz(hz:Z a=none)(ha:H a=some o)(x:Ex (upd Z a o) H Z' H'):Ex Z H (era Z' a) H':=by
 refine⟨x.h,λb u e=>?_,λb u e=>?_,λb hb e=>?_,λb ob u e=>?_⟩
 .have hne:b≠a:=λz=>by subst z;rw[hz]at e;cases e
  rw[pv hne];exact x.z b u (by rw[aH hne];exact e)
 .by_cases hne:b=a
  .subst hne;rw[mo]at e;cases e
  .rw[pv hne]at e;exact x.zh b u e
 .by_cases hne:b=a
  .subst hne;exact mo
  .rw[pv hne];exact x.fr b hb (by rw[aH hne];exact e)
 .have hne:b≠a:=λz=>by subst z;rw[mo]at e;cases e
  rw[pv hne]at e;have q:=x.nf b ob u e;rw[aH hne]at q;exact q
section
variable {X:Cx}{e:SN}{f:Fe}
end
section
variable {prog:SF}{w:SI}{A:SG}{E:Sj}{s:SE}{it d:SM}{i n ep:Nat}{es:Array DictEntry}{od:Obj}{y z:SC}
end
section
variable {X:Cx}{es:Sw}{kk:Nat}{tp:Pos}
end
def kD:Key->D
 | .inl i=>.int i
 | .inr x=>.str x
def KH(k:SR):Bool:=k.all λx=>match x with | .inl _=>true | .inr x=>PyData.strOk x
section
variable {X:Cx}{es:Sw}{kk:Nat}{tp:Pos}
end
section
variable {kx vx:SN}{gens:Sq}{scope:SL}{pos:Pos}{d:Nat}{tg iter:SN}{ifs:Sw}{it:SC}{a:SM}{env:Env}
end
section
variable {X:Cx}{a:SM}{kx vx:SN}{fk fv:Fe}
end
section
variable {X:Cx}{a:SM}{kx vx:SN}{gens:Sq}{scope:SL}{pos:Pos}{d:Nat}{tg iter tm bP:SN}{ifs kj:Sw}{t t':Ft}{c c':Fb}{k:SS}{fe fk:Fe}{fi:Fi}{is:Sy}
end
section
variable {X:Cx}{kx vx:SN}{rest:Sq}{scope:SL}{pos:Pos}{tg iter:SN}{ifs:Sw}{t:Ft}{c:Fb}{k:SS}{fi:Fi}{is caps:Sy}{cl:Sn}{Nc own:Su}
end
theorem fF:∀{ns:Sz}{us:Sr},av (ns.map V.int) us->∀(i:Nat)(v:SC),us[i]?=some v->∃t,v=Value.int (ns.getD i 0) t
 | [],_,.nil,i,v,h=>by simp at h
 | n::ns,_,.cons r t,0,v,h=>by simp at h;subst h;exact r
 | n::ns,_,.cons r t,i+1,v,h=>by
  obtain⟨t',e⟩:=fF t i v (by simpa using h);exact⟨t',by simpa using e⟩
theorem preSum_eq(ns:Sz):∀n,n<=ns.length->preSum (λi=>ns.getD i 0) n=(ns.take n).sum
 | 0,_=>by simp[preSum]
 | n+1,h=>by
  have hn:n<ns.length:=h;rw[preSum,preSum_eq ns n (by lia),List.take_succ,List.sum_append];simp[List.getD,hn]
section
variable {X:Cx}{l r:SN}{fa fb:Fe}{ga gb:Gr}{pos p:Pos}
theorem xx(hc:X.calm=true):dq X (.builtin "sum") (λxs H Q=>∃(a:SM)(ns:Sz),xs=[.ref a]/\cT X.K H a (ns.map V.int)/\Q (.int ns.sum) H):=by
 intro pins s σ H xs us Q I rs h;obtain⟨a,ns,rfl,hq,q⟩:=h;obtain⟨u,rfl,rx⟩:=vals1 rs;cases rx;obtain⟨aX,rv,pl,hz⟩:=I.list hq;have hlt:a<s.sz:=by obtain⟨o,ho,_⟩:=pl.isList;exact r_ ho
 have hl:=av.length rv;rw[c_]at hl;refine call_sum_walkG (Qi pl.isList ⟨s.sz,_,_,_,_,_,λi=>ns.getD i 0,rfl,Walks.list (show X.A.in1.handled=none from I.ok.hd hc) s.sz a (y_ hlt) aX.toArray,⟨⟨_,n_ _ rfl,rfl,rfl⟩,pl.isList.push _⟩,λb hb=>?_,λi v hv=>fF rv i v (by simpa using hv),λh' tk t' hk=>?_⟩)
 .simp only[s_,OR,P_]at hb;rw[RE];rcases hb with rfl | rfl
  .exact Nat.lt_succ_self _
  .exact Pp hlt
 .have e:preSum (λi=>ns.getD i 0) aX.toArray.size=ns.sum:=by
   rw[show aX.toArray.size=ns.length by simp[<- hl],preSum_eq ns _ (h_ _),O3]
  rw[e];refine⟨.int ns.sum,H,I.kept λb o e=>hk b o (λhb=>?_) (e_ _ e),⟨_,rfl⟩,q⟩;have:b=s.sz:=by simpa using hb
  exact y_ (r_ e) this
def BX:D->SW
 | .lst ds=>(ju ds).bind λns=>some (.int ns.sum)
 | _=>none
theorem H8{K:Fg}:gN K .cl BX (λxs H Q=>∃(a:SM)(ns:Sz),xs=[.ref a]/\cT K H a (ns.map V.int)/\Q (.int ns.sum) H):=λ{Z H x dx d Q} s h e k=>by
 cases dx<;>try cases e
 obtain⟨ns,h1,h2⟩:=b_.mp e;cases h2;cases jl h1;obtain⟨a,vs,rfl,q,rr⟩:=h.lst s;cases ar.intsV rr;exact⟨a,ns,rfl,q,k _ Z H (Ex.refl s) rfl⟩
theorem wR:bootBuiltins "sum"=some (.builtin "sum"):=by decide +kernel
theorem IW(hm:X.mg "sum"=none)(bq:X.calm=true)(ha:PD X ga l fa)(hg:Gl X "sum":=by rfl)(he:starEach [l] X.env=[(false,eval l X.env)]:=by rfl):PD X .cl (.Call (.Name "sum" p) [l] [] pos) (bc BX fa):=
 r6 (xx bq) H8 wR hm ha (by decide) (by decide) hg he
variable {o e:SN}{apos bK:Pos}
end
section
variable {X:Cx}{rg:Gr}
open Classical in
open Classical in
end
class Th where
 h:Str->Int
end Mi
namespace Lm
open PySem PySem.Spec PyProof.Rows L2
theorem xY{pos:Pos}{a b:Int}{c v:SC}(l:Sr)(h:TriplesOk l):codeAmong pos (l++[rawInt a,rawInt b,c])=some v->codeAmong pos l=some v\/v=c:=by
 fun_induction TriplesOk l with
 | case1=>
  intro z;simp only[O_,codeAmong,rawInt]at z
  split at z
  .cases z;exact .inr rfl
  .cases z
 | case2 a' t b' u x rest ih=>
  intro z;simp only[Pz,codeAmong]at z ⊢
  split at z
  .rename_i hc;rw[k_ hc];exact .inl z
  .rename_i hc;rw[l_ hc];exact ih h z
 | case3 l h1 h2=>exact h.elim
def um(f:SM)(mk:SC->SJ)(h:SH):Prop:=∃ctv,h.get? f=some {cls:=.type "function",data:=.func (mk ctv)}
theorem l'(f:SM)(mk:SC->SJ):∀h1 h2:SH,um f mk h1->(∀o,h1.get? f=some o->h2.get? f=some o)->um f mk h2:=λ_ _ ⟨c,e⟩ k=>⟨c,k _ e⟩
section
variable {X:Cx}{pins:Sk}{σ:L2.St}{H:Hp}{s:SE}{h':SH}{P c:SM}{q:Str}{ps:Array SC}{a b:Int}{mk:SC->SJ}{ctv:SC}{t':Tok}
theorem lam(I:L2.Inv X pins σ H s)(hP:H P=some (.tab q))(hps:s.heap.get? P=some {cls:=.none,data:=.fields ps})(ht:TriplesOk ps.toList)
  (hx:Heap.ExtBut P s.heap h') (h1:s.heap.objs.size<=c) (h2:c<h'.objs.size) (hc:h'.CodeRec (.ref c) q) (hn:h'.get? P=some {cls:=.none,data:=.fields (ps++#[rawInt a,rawInt b,.ref c])}) :
  L2.Inv X pins σ (upd (upd H c (.cod q)) h'.objs.size (.ext (um h'.objs.size mk))) {s with heap:=h'.push {cls:=.type "function",data:=.func (mk ctv)},toks:=t'}:=by
 have fc:H c=none:=I.hok.fresh h1;have ff:H h'.objs.size=none:=I.hok.fresh (C_ h1 (Pl h2));have ncf:c≠h'.objs.size:=y_ h2;have up:∀{b:SM}{o:HO},H b=some o->upd (upd H c (.cod q)) h'.objs.size (.ext (um h'.objs.size mk)) b=some o:=λ{b o} e=>by
  rw[aH (a6 e ff),aH (a6 e fc)];exact e
 have kp:∀b o,b≠P->s.heap.get? b=some o->(h'.push {cls:=.type "function",data:=.func (mk ctv)}).get? b=some o:=λb o hb e=>e_ _ (hx b o hb e);have nP:∀{b:SM},H b=none->b≠P:=λ{b} n z=>by rw[z,hP]at n;cases n
 refine I.step (g':=s.gens) (d':=s.drawn) (t':=t') (ch:=[]) (λ_ z=>nomatch z) (λb o _ _ _ e n=>kp b o (nP n) e) (λb o _ _ _ e n=>⟨o.slots,kp b o (nP n) e⟩) (λb o _ e n=>?_) (λb o _ e=>?_)
  (λb xs e=>up e) (λb o u e=>up e) (λb ps e=>up e) (λm hm=>?_) (λb u e=>?_) I.bare
 .have lt:=r_ e;rw[aH (y_ (E_ lt (C_ h1 (Pl h2)))),aH (y_ (E_ lt h1))];exact n
 .by_cases hb:b=P
  .subst hb;exact⟨_,e_ _ hn⟩
  .exact⟨o,kp b o hb e⟩
 .obtain⟨o,es,ep,ho,r⟩:=hm;exact⟨o,es,ep,kp _ o (nP I.free) ho,r⟩
 .by_cases hf:b=h'.objs.size
  .subst hf;rw[ax]at e;cases e;have z:(h'.push {cls:=.type "function",data:=.func (mk ctv)}).get? h'.objs.size=some {cls:=.type "function",data:=.func (mk ctv)}:=n_ _ rfl;exact⟨⟨ctv,z⟩,⟨_,z⟩,l' _ _⟩
  .rw[aH hf]at e
   by_cases hbc:b=c
   .subst hbc;rw[ax]at e;cases e;obtain⟨c2,oc,vs,t,e2,DC,hd,hv⟩:=hc;cases e2;exact⟨oc,vs,t,e_ _ DC,hd,hv⟩
   .rw[aH hbc]at e
    by_cases hbP:b=P
    .subst hbP;rw[hP]at e;cases e;obtain⟨ps0,e0,_,Hf⟩:=(show bp X.prog X.w H s.heap b (.tab q)from I.hok b _ hP);rw[hps]at e0;cases e0;refine⟨_,e_ _ hn,?_,λpos v z=>?_⟩
     .rw[Array.toList_append];exact TriplesOk_snoc _ _ _ _ ht
     .rw[Array.toList_append]at z;rcases xY _ ht z with z | z
      .obtain⟨c0,z1,z2⟩:=Hf pos v z;exact⟨c0,z1,up z2⟩
      .exact⟨c,z,by rw[aH ncf,ax]⟩
    .refine(I.hok b u e).stay (λd v hd r=>kp d v ?_ r) (λd r=>up r) (λd xs r=>up r) λd xs r=>up r;rcases hd with z | z
     .rw[z];exact hbP
     .exact λw=>by rw[w,hP]at z;cases z
theorem GJ(I:L2.Inv X pins σ H s)(hk:∀b o,s.heap.get? b=some o->h'.get? b=some o)(hs:s.heap.objs.size<=h'.objs.size) :
  L2.Inv X pins σ (upd H h'.objs.size (.ext (um h'.objs.size mk))) {s with heap:=h'.push {cls:=.type "function",data:=.func (mk ctv)},toks:=t'}:=by
 have z:(h'.push {cls:=.type "function",data:=.func (mk ctv)}).get? h'.objs.size=some {cls:=.type "function",data:=.func (mk ctv)}:=n_ _ rfl;exact I.laid (t':=t') (λb u e=>e_ _ (hk b u e)) hs ⟨⟨ctv,z⟩,⟨_,z⟩,l' _ _⟩
end
section
variable {X:Cx}{pins:Sk}{σ:L2.St}{H:Hp}{s:SE}{P c0:SM}{params:Arguments}{body:SN}{scope:SL}{pos:Pos}{yf:Sn}
abbrev uu(X:Cx):Str:=X.env.qual++"<lambda>"
abbrev wQ(X:Cx)(params:Arguments)(body:SN)(scope:SL)(yf:Sn)(c:SM)(ctv:SC):SJ:=
 PySem.W.kla_fn "<lambda>" (uu X) params body scope yf ((X.mg "__name__").getD .none) (.ref c) ctv
theorem Fv{Q:Sj}{E:Sj}(I:L2.Inv X pins σ H s)(hP:H P=some (.tab (uu X)))(wt:X.env.code=.ref c0)(C:PySem.W.CodeHd X.base c0 P)
  (hB:∃bm o,X.mg "__builtins__"=some (.ref bm)/\bm≠builtinsNs/\bm≠mainGlobals/\X.base.get? bm=some o/\o.cls=.type "module"/\o.dict=some builtinsNs/\o.data=.plain)
  (g0:closureFor scope X.env=pure yf) (Hg:defaultsOf params X.env=([],[]))
  (k:∀f c H' s',L2.Inv X pins σ H' s'->aK H H'->H f=none->H' c=some (.cod (uu X))->H' f=some (.ext (um f (wQ X params body scope yf c)))->Q (.ref f) s') :
  wpAny (model X.prog X.w) X.A (eval (.Lambda params body scope pos) X.env) Q E s:=by
 have kb:∀b o,X.base.get? b=some o->s.heap.get? b=some o:=λb o e=>(I.bs b o e).1;obtain⟨ps,e1,ht,Hf⟩:=(show bp X.prog X.w H s.heap P (.tab (uu X))from I.hok P _ hP);have hg:s.heap.Ns mainGlobals X.mg:=by
  obtain⟨o,es,ep,e,r⟩:=I.ok.mod.glob;exact⟨o,es,ep,kb _ _ e,r⟩
 have nP:∀b o,X.base.get? b=some o->b≠P:=λb o e z=>by
  have:=(I.bs b o e).2;rw[z,hP]at this;cases this
 have hgP:mainGlobals≠P:=by
  obtain⟨o,es,ep,e,r⟩:=I.ok.mod.glob;exact nP _ _ e
 have hb:s.heap.BuiltinsAt X.mg P:=by
  obtain⟨bm,o,b1,b2,b3,b4,b5⟩:=hB;exact⟨bm,o,b1,b2,b3,nP _ _ b4,kb _ _ b4,b5⟩
 refine PySem.W.kla_eval Hg ?_;cases hn:codeAmong pos ps.toList with
 | none=>
  refine PySem.W.kla_makeFunction g0 I.ok.glob hg wt (C.keeps kb) e1 ht hn hgP hb λc' ctv h' tk hx EF hlt hrec htb=>?_;have I':=lam (mk:=wQ X params body scope yf c') (ctv:=ctv) (t':=tk) I hP e1 ht hx EF hlt hrec htb;have fc:H c'=none:=I.hok.fresh EF;have ff:H h'.objs.size=none:=I.hok.fresh (C_ EF (Pl hlt));exact k _ c' _ _ I' (λb o e=>by rw[aH (a6 e ff),aH (a6 e fc)];exact e) ff (by rw[aH (y_ hlt),ax]) ax
 | some cv=>
  obtain⟨c',rfl,hc'⟩:=Hf pos cv hn;refine PySem.W.kla_makeFunctionHit g0 I.ok.glob hg wt (C.keeps kb) e1 ht hn hb λctv h' tk hk hsz=>?_;have I':=GJ (mk:=wQ X params body scope yf c') (ctv:=ctv) (t':=tk) I hk hsz;have ff:H h'.objs.size=none:=I.hok.fresh hsz;exact k _ c' _ _ I' (λb o e=>by rw[aH (a6 e ff)];exact e) ff (by rw[aH (a6 hc' ff)];exact hc') ax
end
end Lm
namespace Lm
open PySem PySem.Spec PyProof.Rows L2 Mi
abbrev pE(X:Cx)(scope:SL)(cl:Sn)(f c L:SM):Env:=newEnv scope L mainGlobals cl (uu X++".<locals>.") (some f) (.ref c) none builtinsNs
def qN(X:Cx)(A:SG)(scope:SL)(cl:Sn)(Nc:Su)(f c:SM)(s:SE)(H:Hp)(pn:Sk):Cx:=
 {X with A:=A.deeper (pE X scope cl f c s.sz),N:=Nc,s₀:=s,H₀:=H,env:=pE X scope cl f c s.sz,outer:=X.stack,stack:=pE X scope cl f c s.sz::X.stack,ex:=[],fn:=λ_=>false,calm:=true,pn:=pn,xe:=λ_ _=>False}
section
variable {X:Cx}{A:SG}{pins:Sk}{σ:L2.St}{H:Hp}{s:SE}{scope:SL}{cl:Sn}{Nc:Su}{caps:Sy}{f c:SM}{x0:Str}{v:V}{u:SC}
theorem CA{h1:SH}{tk:Nat}(I:Inv X pins σ H s)(hd:A.handled=none)(DA:A.frames=some X.stack)(g0:fN (λx=>X.env.cells.lookup x) scope.names []=some cl)(bJ:scope.kind=.function)(hnc:∀y∈scope.names,y.2≠.cell)
  (hN:Nc.map some=some x0::caps.map (λj=>X.N[j]?)) (eT:iz X scope caps=true) (h0:scope.names.lookup x0=some .local) (r:RelV v u)
  (ya:h1.Ns s.sz (λx=>[(x0,u)].reverse.lookup x)) (hk:∀b o,s.heap.get? b=some o->h1.get? b=some o) :
  Inv (qN X A scope cl Nc f c s H (X.pn++pins)) [] ((kQ 1 caps σ).set 0 (some v)) H {s with heap:=h1,toks:=tk}:=by
 have mem:=fm g0 (λp hp=>by cases hp);have low:∀x c,cl.lookup x=some c->X.env.cells.lookup x=some c:=λx c h=>mem (x,c) (OG h);have Bo:∀b:SM,b∉(qN X A scope cl Nc f c s H (X.pn++pins)).ex:=λb z=>absurd (show b∈([]:Sv)from z) (by simp);refine⟨⟨I.ok.mod,bJ,rfl,rfl,h_ _,λx y c h1 h2=>I.ok.inj x y c (low x c h1) (low y c h2),λx hx=>?_,λx c hf _=>absurd (show false=true from hf) F_,λ_=>hd,Around.frames_deeper DA,.inr ⟨rfl,rfl⟩,λb z=>absurd z (Bo b),
   I.bs,C_ I.ok.bsz I.sz,λb _ _=>Bo b,λb z=>absurd z (Bo b),I.stack,I.stkFree,I.tb⟩,
  rfl,I.bare,Un.kept hk,⟨_,ya,λi x v' e1 e2 e3=>?_⟩,λx c h=>?_,I.hok.fresh (h_ _),λx c h=>I.freeC x c (low x c h),λp hp=>?_,I.hok.kept hk,?_⟩
 .have m8:scope.names.lookup x=some .cell\/scope.names.lookup x=some .free:=hx;rcases m8 with h | h
  .exact absurd rfl (hnc _ (OG h))
  .obtain⟨c,hc⟩:=fH g0 x (.inl (OG h));exact cC hc
 .cases i with
  | zero=>
   have sT:some (some v)=some (some v'):=e2;cases sT;have h1:(Nc.map some)[0]?=some (some x):=by rw[m_,show Nc[0]?=some x from e1];rfl
   rw[hN]at h1;have h2:some (some x0)=some (some x):=h1;cases h2;exact⟨u,r,.inl ⟨h0,by simp⟩⟩
  | succ i=>
   have sT:(caps.map λj=>(σ[j]?).getD none)[i]?=some (some v'):=e2;rw[m_]at sT;cases hj:caps[i]? with
   | none=>rw[hj]at sT;cases sT
   | some j=>
    rw[hj]at sT;have sT:(σ[j]?).getD none=some v':=Option.some.inj sT;have hσ:σ[j]?=some (some v'):=by
     cases q:σ[j]? with
     | none=>rw[q]at sT;cases sT
     | some o=>rw[q]at sT;exact OZ some sT
    have hx:X.N[j]?=some x:=by
     have h1:(Nc.map some)[i+1]?=some (some x):=by rw[m_,show Nc[i+1]?=some x from e1];rfl
     rw[hN]at h1;have h2:(caps.map (λj=>X.N[j]?))[i]?=some (some x):=h1;rw[m_,hj]at h2;exact Option.some.inj h2
    have hc1:=I_.mp eT j (Ox hj);rw[hx]at hc1;simp only[A_,Se,R9]at hc1;obtain⟨hc1,qI⟩:=hc1;obtain⟨m0,Ms,Mt⟩:=I.loc;obtain⟨u,ru,lk⟩:=Mt j x v' hx hσ (.inr hc1);refine⟨u,ru,.inr ?_⟩;have Mu:∃c,X.env.cells.lookup x=some c/\s.heap.IsCell c (some u):=by
     rcases lk with ⟨h1,_⟩ | ⟨_,c,h1,h2⟩
     .have G4:X.env.scope.names.lookup x=some .local:=h1;rcases hc1 with z | z<;>· rw[G4]at z;cases z
     .exact⟨c,h1,h2⟩
    obtain⟨c,Mv,Mw⟩:=Mu;obtain⟨c',hc'⟩:=fH g0 x (.inl (OG qI));obtain⟨Mx,A3⟩:=cC hc';have e4:=low x Mx A3;rw[Mv]at e4;cases e4;obtain⟨o,ho,hd⟩:=Mw;exact⟨.inr qI,c,A3,o,hk c o ho,hd⟩
 .obtain⟨v,o,ho,hd⟩:=I.cell x c (low x c h);exact⟨v,o,hk c o ho,hd⟩
 .have My:p∈X.pn++pins:=by simpa [qN]using hp
  obtain⟨h1,h2,h3,h4,h5⟩:=I.pin p My;exact⟨hk _ _ h1,h2,y_ (r_ h1),fo I h3 h4,h5⟩
 .have:=OZ List.length hN;simp only[c_,H_]at this;simp only[kQ,Sd,t_,PN,c_];rw[Nat.add_comm];exact this.symm
def IR(X:Cx)(pins:Sk)(σ:L2.St)(Z H:Hp)(n:Int)(y:SC)(s':SE):Prop:=∃t H' Z',y=.int n t/\Inv X pins σ H' s'/\Ex Z H Z' H'
theorem AK{params:Arguments}{body:SN}{fl:Fe}{B Z:Hp}{env:En}{d:D}{n:Int}(I:Inv X pins σ H s)(R:Rl X.K B Z H env σ)(DA:A.frames=some X.stack)(hr:b8 k A)
  (hf:H f=some (.ext (um f (wQ X params body scope cl c)))) (hc:H c=some (.cod (uu X)))
  (hb:∀ctv u,bindArgs (wQ X params body scope cl c ctv) ⟨[u],[]⟩=pure [(x0,u)]) (hco:scope.isCoroutine=false) (Hh:scope.isGenerator=false)
  (g0:fN (λx=>X.env.cells.lookup x) scope.names []=some cl) (bJ:scope.kind=.function) (hnc:∀y∈scope.names,y.2≠.cell)
  (hN:Nc.map some=some x0::caps.map (λj=>X.N[j]?)) (eT:iz X scope caps=true) (h0:scope.names.lookup x0=some .local)
  (hbody:∀s H pn,PD (qN X A scope cl Nc f c s H pn) .cl body fl) (r:RelV v u) (hv:Rep X.K Z d v) (hfl:fl ((cW 1 caps env).set 0 (.F d))=some (.int n)) :
  wpAny (model X.prog X.w) A (call (.ref f) [u]) (IR X pins σ Z H n) (λ_ _=>False) s:=by
 obtain⟨⟨ctv,hF⟩,_⟩:=(show bp X.prog X.w H s.heap f (.ext _)from I.hok f _ hf);obtain⟨oc,vs,t,h1,h2,h3⟩:=(show bp X.prog X.w H s.heap c (.cod _)from I.hok c _ hc);refine wpAny_call (PySem.W.kla_callFunE hr.depth hF rfl hco Hh rfl ⟨c,oc,vs,t,rfl,h1,h2,h3⟩ ?_);refine Rh (hb ctv u) ?_;refine Ri hnc (by intro y hy;rw[u_.mp hy];exact h0) (λh1 ya hsb=>?_) bJ;have k:∀b o,s.heap.get? b=some o->h1.get? b=some o:=λb o e=>hsb.extBut b o (y_ (r_ e)) (e_ _ e);refine⟨I.nolimit.keeps k,PySem.W.kla_codeExpr ?_⟩;have J:=CA (f:=f) (c:=c) (tk:=s.toks+[(x0,u)].length) I hr.hd DA g0 bJ hnc hN eT h0 r ya k;have R':Rl X.K H Z H ((cW 1 caps env).set 0 (.F d)) ((kQ 1 caps σ).set 0 (some v)):=(R.cap 1 caps (aK.refl _) R.zh).setF 0 hv;refine OX (hbody s H (X.pn++pins) [] _ _ H (λw H'=>∃Z',Ex Z H Z' H'/\Rep X.K Z' (.int n) w) J ⟨_,H,Z,_,R',hfl,λw Z' H' x g=>⟨Z',x,g⟩⟩) (λy s' hy=>?_) λe s' he=>he.elim;obtain⟨w,H',J',rw_,Z',x,g⟩:=hy;cases(show w=.int n from g);obtain⟨t,rfl⟩:=rw_;exact⟨t,H',Z',rfl,I.call' (ch:=[]) J'.os J'.base J'.hok J'.bare (λb z=>absurd z (by simp)),x⟩
end
section
variable {X:Cx}{A:SG}{pins:Sk}{σ:L2.St}{Z H:Hp}{l q I S:SM}{xs:SX}{kf:Nat->Int}{R:Result->SE->Prop}
abbrev DO(X:Cx)(A:SG)(σ:L2.St)(Z H:Hp)(q:SM)(xs:SX)(kf:Nat->Int):Prop:=∀(i:Nat)(v:V)(u:SC),xs[i]?=some v->RelV v u->∀(pins:Sk)(s:SE)(Z1 H1:Hp),Inv X pins σ H1 s->Ex Z H Z1 H1->
 wpAny (model X.prog X.w) A (call (.ref q) [u]) (IR X pins σ Z1 H1 (kf i)) (λ_ _=>False) s
theorem JF{H1:Hp}{s:SE}{oS oI:Obj}(J:Inv X pins σ H1 s)(fS:bR X pins H1 S)(fI:bR X pins H1 I)(gS:s.heap.get? S=some oS)(gI:s.heap.get? I=some oI)(dS:∀v,oS.data≠.cell v)(dI:∀v,oI.data≠.cell v):Inv X (pins++[(S,oS),(I,oI)]) σ H1 s:=
 J.pins_of λp hp=>(Oz.mp hp).elim (λz=>J.pin p (B_ _ z)) λz=>by
  rcases s_.mp z with rfl | z
  .exact⟨gS,fS.1,fS.2.1,fS.2.2.1,dS⟩
  .rw[u_.mp z];exact⟨gI,fI.1,fI.2.1,fI.2.2.1,dI⟩
theorem bR.at{H1 H2:Hp}{b:SM}(f:bR X pins H1 b)(h:H2 b=none):bR X pins H2 b:=⟨h,f.2⟩
theorem AJ(hh:A.handled=none)(hS:cT X.K H l xs)(NM:l≠I)(NN:l≠S)(Km:S≠I)(turn:DO X A.in1 σ Z H q xs kf)
  (hR:∀i v u s' Z' H',xs[i]?=some v->RelV v u->(∀j,j<xs.length->kf i<=kf j/\(j<i->kf i<kf j))->Inv X pins σ H' s'->Ex Z H Z' H'->R (.ok (.ret u)) s') :
  ∀(r j i:Nat)(s:SE)(Z1 H1:Hp)(v:V)(vb:SC)(tb:Tok)(c:Nat),xs.length-(j+1)=r->j+1<=xs.length->Inv X pins σ H1 s->Ex Z H Z1 H1->bR X pins H1 S->bR X pins H1 I->
   s.heap.get? S=some (seqObj "list" #[vb,.int (kf i) tb] c)->s.heap.IsListIter I l (j+1)->xs[i]?=some v->RelV v vb->i<=j->(∀j',j'<=j->kf i<=kf j'/\(j'<i->kf i<kf j'))->
   codeAny (model X.prog X.w) A (.builtin "min.loop" ⟨[.ref I,.ref q,.ref S],[]⟩) R s:=by
 have sU:(toString "min"++toString ".loop":String)="min.loop":=by decide
 intro r
 induction r with
 | zero=>
  intro j i s Z1 H1 v vb tb c hr hj J x fS fI gS hit hv rv yg hbest;obtain⟨aX,ri,p,_⟩:=J.list (x.h.seq hS);have qC:aX.length=j+1:=by have:=ri.length;lia
  refine QF Q4 ?_;rw[Rj O4 _];show wpAny _ A.in1 (seqItems? (.ref S) >>= _) _ _ _;refine a_ (PH gS rfl ?_);show wpAny _ A.in1 (tryCatch (pyNext (.ref I)) _ >>= _) _ _ _;refine a_ (Ql (Q8 hh hit p.isList (by simp[qC]) λh' eb=>?_));have gS':=eb S _ Km gS;have J1:Inv X pins σ H1 {s with heap:=h'}:=J.turned (t':=s.toks) (λb o hb e=>eb b o hb e) fI.1 fI.2.1 fI.2.2.2.1 fI.2.2.2.2.1 fI.2.2.2.2.2;have s1:=OT h' S (Obj.mapSeq λ_=>(#[]:Array SC));show wpAny _ A.in1 (updateSeq S (λ_=>#[]) >>= _) _ _ _;refine a_ ?_;refine wpAny_updateSeq gS' rfl (a_ (RO (d_ ?_)));exact hR i v vb _ _ _ hv rv (λj' hj'=>hbest j' (by lia)) (J1.turned (t':=s.toks) (λb o hb e=>(s1.2 b hb).trans e) fS.1 fS.2.1 fS.2.2.2.1 fS.2.2.2.2.1 fS.2.2.2.2.2) x
 | succ r ih=>
  intro j i s Z1 H1 v vb tb c hr hj J x fS fI gS hit hv rv yg hbest;have hlt:j+1<xs.length:=by lia
  obtain⟨aX,ri,p,_⟩:=J.list (x.h.seq hS);have hx:xs[j+1]?=some xs[j+1]:=f_ hlt;obtain⟨u,hu,ru⟩:=ri.get hx;refine QF Q4 ?_;rw[Rj O4 _];show wpAny _ A.in1 (seqItems? (.ref S) >>= _) _ _ _;refine a_ (PH gS rfl ?_);show wpAny _ A.in1 (tryCatch (pyNext (.ref I)) _ >>= _) _ _ _;refine a_ (Ql (P8 hit p.isList (x:=u) (by simpa using hu) λh' oW sb=>?_));have J1:Inv X pins σ H1 {s with heap:=h'}:=J.turned (t':=s.toks) (λb o hb e=>(sb.2 b hb).trans e) fI.1 fI.2.1 fI.2.2.2.1 fI.2.2.2.2.1 fI.2.2.2.2.2;obtain⟨K0,Hi,DC,ym⟩:=id oW;have gS1:=(sb.2 S Km).trans gS;have J2:=JF J1 fS fI gS1 Hi (λv z=>by cases z) (λv z=>by rw[ym]at z;cases z);show wpAny _ A.in1 (tryCatch (holding [u] (call (.ref q) [u])) _ >>= _) _ _ _;refine a_ (Ql (K_ (OX (turn (j+1) _ u hx ru _ _ Z1 H1 J2 x) (λy s2 he=>?_) λ_ _ hF=>hF.elim)));obtain⟨t2,H2,Z2,rfl,J3,x2⟩:=he;have nS:=J3.pin (S,_) (B_ _ (B_ _ (.head _)));have nI:=J3.pin (I,_) (B_ _ (B_ _ (.tail _ (.head _))));have J4:=J3.unpinned;have Hc:s2.heap.IsListIter I l (j+1+1):=⟨K0,nI.1,DC,ym⟩;show wpAny _ A.in1 (tryCatch (holding [u,.int (kf (j+1)) t2] (richCompare .Lt (.int (kf (j+1)) t2) (.int (kf i) tb) >>= _)) _ >>= _) _ _ _;refine a_ (Ql (K_ (a_ (CmpOf.ints_lt (prog:=X.prog) (w:=X.w) (A:=A.in1) (P:=λi v=>∃t,v=.int (kf i) t) kf (λi v h=>h) (j+1) i _ _ _ _ _ ⟨t2,rfl⟩ ⟨tb,rfl⟩ ?_))));refine a_ (K_ (Pg ?_));refine a_ (RO (d_ ?_));have wu:bR X pins H2 S:=bR.at fS nS.2.1;have K2:bR X pins H2 I:=bR.at fI nI.2.1
  by_cases yc:kf (j+1)<kf i
  .have s1:=OT s2.heap S (Obj.mapSeq λ_=>#[u,.int (kf (j+1)) t2]);obtain⟨c2,qI⟩:∃c2,(s2.heap.update S (Obj.mapSeq λ_=>#[u,.int (kf (j+1)) t2])).get? S=some (seqObj "list" #[u,.int (kf (j+1)) t2] c2):=⟨_,Rp nS.1 λ_=>#[u,.int (kf (j+1)) t2]⟩;simp only[yc,decide_true,PV];refine a_ ?_;refine wpAny_updateSeq nS.1 rfl (a_ (RO ?_));rw[sU];refine d_ ⟨RW O4 _,ih (j+1) (j+1) _ Z2 H2 _ u t2 c2 (by lia) hlt (J4.turned (t':=s2.toks) (λb o hb e=>(s1.2 b hb).trans e) wu.1 wu.2.1 wu.2.2.2.1 wu.2.2.2.2.1 wu.2.2.2.2.2) (x.trans x2) wu K2 qI
    ⟨K0,(s1.2 I Km.symm).trans nI.1,DC,ym⟩ hx ru (h_ _) λj' hj'=>?_⟩
   by_cases e:j'=j+1
   .subst e;exact⟨by lia,λ_=>by lia⟩
   .have hb1:=hbest j' (by lia);have hb2:=hb1.1;exact⟨by lia,λ_=>by lia⟩
  .simp only[yc,decide_false,z_,OS];refine a_ (RO ?_);rw[sU];refine d_ ⟨RW O4 _,ih (j+1) i s2 Z2 H2 v vb tb c (by lia) hlt J4 (x.trans x2) wu K2 nS.1 Hc hv rv (by lia) λj' hj'=>?_⟩
   by_cases e:j'=j+1
   .subst e;exact⟨by lia,λ_=>by lia⟩
   .exact hbest j' (by lia)
theorem B7{s:SE}{Q:Sj}{E:Sj}(hh:A.handled=none)(hS:cT X.K H l xs)(J:Inv X pins σ H s)(zh:aK Z H)(hne:0<xs.length)(turn:DO X A.in1 σ Z H q xs kf)
  (hQ:∀i v u s' Z' H',xs[i]?=some v->RelV v u->(∀j,j<xs.length->kf i<=kf j/\(j<i->kf i<kf j))->Inv X pins σ H' s'->Ex Z H Z' H'->Q u s') :
  wpAny (model X.prog X.w) A (call (.builtin "min") [.ref l] [("key",.ref q)]) Q E s:=by
 have sU:(toString "min"++toString ".loop":String)="min.loop":=by decide
 obtain⟨aX,ri,p,_⟩:=J.list hS;have hll:=p.lt;refine kmk_tree PySem.F.kind_min PySem.F.plain_min PySem.F.entry_min (kmk_min_key _ _) ?_;show wpAny _ A.in1 (Builtin.Builtins.bindParams "min" ["key","default"] 0 ⟨[],[("key",.ref q)]⟩ >>= _) _ _ s;refine a_ (Rh (show Builtin.Builtins.bindParams "min" ["key","default"] 0 ⟨[],[("key",.ref q)]⟩=pure [some (.ref q),none]from rfl) ?_);refine a_ (d_ ?_);refine a_ (Qi p.isList ?_);refine a_ (QA ?_ (Py _));rw[sU];have sI:(s.heap.push {cls:=.type "list_iterator",data:=.fields #[.ref l,.int 0 0]}).objs.size=s.heap.objs.size+1:=size_push' ..;rw[sI];have gI:((s.heap.push {cls:=.type "list_iterator",data:=.fields #[.ref l,.int 0 0]}).push (seqObj "list" #[] 0)).get? s.heap.objs.size=some {cls:=.type "list_iterator",data:=.fields #[.ref l,.int 0 0]}:=
  e_ _ (n_ _ rfl)
 have gS:((s.heap.push {cls:=.type "list_iterator",data:=.fields #[.ref l,.int 0 0]}).push (seqObj "list" #[] 0)).get? (s.heap.objs.size+1)=some (seqObj "list" #[] 0):=by rw[<- sI];exact n_ _ rfl
 have kk:∀b o,s.heap.get? b=some o->((s.heap.push {cls:=.type "list_iterator",data:=.fields #[.ref l,.int 0 0]}).push (seqObj "list" #[] 0)).get? b=some o:=λb o e=>e_ _ (e_ _ e);have fI:bR X pins H s.heap.objs.size:=J.fpOk (h_ _) (J.hok.fresh (h_ _));have fS:bR X pins H (s.heap.objs.size+1):=J.fpOk (QP _) (J.hok.fresh (QP _));have Km:s.heap.objs.size+1≠s.heap.objs.size:=RY _;have NM:l≠s.heap.objs.size:=y_ hll;have NN:l≠s.heap.objs.size+1:=y_ (Pp hll);have J0:Inv X pins σ H {s with heap:=(s.heap.push {cls:=.type "list_iterator",data:=.fields #[.ref l,.int 0 0]}).push (seqObj "list" #[] 0)}:=J.kept (t':=s.toks) kk;generalize hh2:(s.heap.push {cls:=.type "list_iterator",data:=.fields #[.ref l,.int 0 0]}).push (seqObj "list" #[] 0)=h2 at gI gS J0 kk;refine d_ ⟨RW O4 _,?_⟩;have hx:xs[0]?=some xs[0]:=f_ hne;obtain⟨uQ,ri2,p2,_⟩:=J0.list hS;obtain⟨u,hu,ru⟩:=ri2.get hx;refine QF Q4 ?_;rw[Rj O4 _];show wpAny _ A.in1 (seqItems? (.ref _) >>= _) _ _ _;refine a_ (PH gS rfl ?_);show wpAny _ A.in1 (tryCatch (pyNext (.ref s.heap.objs.size)) _ >>= _) _ _ _;refine a_ (Ql (P8 ⟨_,gI,rfl,rfl⟩ p2.isList (x:=u) (by simpa using hu) λh' oW sb=>?_));have J1:Inv X pins σ H {s with heap:=h'}:=J0.turned (t':=s.toks) (λb o hb e=>(sb.2 b hb).trans e) fI.1 fI.2.1 fI.2.2.2.1 fI.2.2.2.2.1 fI.2.2.2.2.2;obtain⟨K0,Hi,DC,ym⟩:=id oW;have gS1:=(sb.2 _ Km).trans gS;have J2:=JF J1 fS fI gS1 Hi (λv z=>by cases z) (λv z=>by rw[ym]at z;cases z);show wpAny _ A.in1 (tryCatch (holding [u] (call (.ref q) [u])) _ >>= _) _ _ _;refine a_ (Ql (K_ (OX (turn 0 _ u hx ru _ _ Z H J2 (Ex.refl zh)) (λy s2 he=>?_) λ_ _ hF=>hF.elim)));obtain⟨t2,H2,Z2,rfl,J3,x2⟩:=he;have nS:=J3.pin (_,_) (B_ _ (B_ _ (.head _)));have nI:=J3.pin (_,_) (B_ _ (B_ _ (.tail _ (.head _))));have J4:=J3.unpinned;have wu:bR X pins H2 (s.heap.objs.size+1):=bR.at fS nS.2.1;have K2:bR X pins H2 s.heap.objs.size:=bR.at fI nI.2.1;have s1:=OT s2.heap (s.heap.objs.size+1) (Obj.mapSeq λ_=>#[u,.int (kf 0) t2]);obtain⟨c2,qI⟩:∃c2,(s2.heap.update (s.heap.objs.size+1) (Obj.mapSeq λ_=>#[u,.int (kf 0) t2])).get? (s.heap.objs.size+1)=some (seqObj "list" #[u,.int (kf 0) t2] c2):=⟨_,Rp nS.1 λ_=>#[u,.int (kf 0) t2]⟩;show wpAny _ A.in1 (updateSeq (s.heap.objs.size+1) (λ_=>#[u,.int (kf 0) t2]) >>= _) _ _ _;refine a_ ?_;refine wpAny_updateSeq nS.1 rfl ?_;rw[sU];refine d_ ⟨RW O4 _,AJ hh hS NM NN Km turn (λi v u s' Z' H' h1 h2 h3 h4 h5=>hQ i v u s' Z' H' h1 h2 h3 h4 h5) _ 0 0 _ Z2 H2 _ u t2 c2 rfl hne
  (J4.turned (t':=s2.toks) (λb o hb e=>(s1.2 b hb).trans e) wu.1 wu.2.1 wu.2.2.2.1 wu.2.2.2.2.1 wu.2.2.2.2.2) x2 wu K2 qI ⟨K0,(s1.2 _ Km.symm).trans nI.1,DC,ym⟩ hx ru (h_ _) λj' hj'=>?_⟩
 have e:j'=0:=by lia
 subst e;exact⟨by lia,λh=>absurd h (Qf _)⟩
end
end Lm
namespace Mi
open PySem PySem.Spec PyProof.Rows L2
section
variable {X:Cx}{a:SM}{elt:SN}{fe:Fe}
end
def F5:D->D->SW
 | .lst xs,.int k=>if 0<=k/\xs.length*k.toNat<=16000000/\k<1000000000 then some (.lst (List.replicate k.toNat xs).flatten)else none
 | _,_=>none
theorem ar.rep{K:Fg}{Z:Hp}{ds:SV}{vs:SX}(h:ar K Z ds vs):∀(k:Nat),ar K Z (List.replicate k ds).flatten (List.replicate k vs).flatten
 | 0=>rfl
 | k+1=>by rw[OW,OW,Ph,Ph];exact h.app (ar.rep h k)
theorem Fx(ha:PD X .nw l fa)(hb:PD X gb r fb):PD X .nw (.BinOp l .Mult r pos) (ai F5 fa fb):=PE.imp (Ey Fk ha hb) λσ H Q aG=>by
 obtain⟨env,B,Z,d,R,e,k⟩:=aG;obtain⟨x,y,e1,e2,e3⟩:=sD e;cases x<;>try cases e3
 cases y<;>try cases e3
 rename_i ds n;obtain⟨hc,rfl⟩:=ma e3;refine⟨env,B,Z,_,R,e1,λv Z1 H1 x1 g1=>⟨env,B,Z1,_,R.ext x1,e2,λu Z2 H2 x2 g2=>?_⟩⟩;obtain⟨b,us,J8,rfl,e4,hb0,hb1,hb2,rr⟩:=g1;cases e4;cases g2.int;have hl:=rr.len;refine⟨b,n,us,rfl,rfl,x2.h _ _ hb1,by lia,by lia,by rw[<- hl,OJ];lia,λp hp=>?_⟩;have x12:=x1.trans x2;exact k _ Z2 _ (x12.trans (Ex.newL x12.zh hp)) ⟨p,_,_,rfl,rfl,x12.h.free hp,ax,x12.zh.free hp,(ar.mono x2.z ds rr).rep _⟩
def Lp:SV->Option Sz
 | []=>some []
 | .int n::r=>(Lp r).bind λns=>some (n::ns)
 | _=>none
def noO(env:En):Bool:=env.all λs=>match s with | .O _=>false | _=>true
structure GrAt(a:Addr)(bs:List Addr)(g:List (List Int))(B Z H:Hp):Prop where
 ha:H a=some (.lst (bs.map V.ref))
 ba:B a=none
 za:Z a=none
 nd:bs.Nodup
 len:bs.length=g.length
 el:∀(i:Nat)(b:Addr),bs[i]?=some b->b≠a/\B b=none/\Z b=none/\∃ns:List Int,g[i]?=some ns/\H b=some (.lst (ns.map V.int))
section
variable {X:Cx}{comp iter1 iter2:SN}{fc:Fe}{fi1 fi2:Fi}{q:D->SU}{tb sh mn rw cn:Str}{k1 k2:Nat}{pt p1 p2 p3 p4 p5 p6 p7 p8 p9 pa pb pc pd pe pf pg ph spos:Pos}
end
end Mi
namespace Mi
open PySem
end Mi
namespace Mi
open PySem PySem.Spec PyProof.Rows L2
section
variable {X:Cx}{l r:SN}{fa fb:Fe}{ga gb:Gr}{pos p:Pos}
end
end Mi
namespace Mi
open PySem
end Mi
namespace Mi
open PySem PySem.Spec PyProof.Rows L2
section
variable {X:Cx}{rg:Gr}{pos px:Pos}{x:Str}{e:SN}
end
section
variable {X:Cx}{rg:Gr}
theorem zA(h1:PG X e t)(hs:(assignEach [.Starred e p] X.env).map (·.2)=[assign e X.env]:=by rfl):wz X [.Starred e p] (DP t gNil):=by
 intro pins s σ H vs us Q I r h;obtain⟨v,vr,e1,h⟩:=h;subst e1;cases r with
 | cons r rr=>
  rw[hs];refine assignInOrder_cons (br (h1 pins s σ H _ _ _ I r h) λ_ s1 aG=>?_);obtain⟨σ1,H1,I1,q1⟩:=aG;obtain⟨rfl,q1⟩:=q1;cases rr;exact assignInOrder_nil ⟨σ1,H1,I1,q1⟩
end
section
variable {X:Cx}{rg:Gr}{pins:Sk}{s:SE}{σ:L2.St}{H:Hp}
variable {o e:SN}{fa fb:Fe}{apos bK:Pos}{k:Nat}
end
end Mi
namespace Mi
open PySem PySem.Spec PyProof.Rows L2
inductive oX(A:Around)(s:Shared)(q:Bool):List Value->List Value->Prop
 | nil:q=false->oX A s q [] []
 | less {w:Value} {ws:List Value}:q=true->oX A s q [] (w::ws)
 | more {v:Value} {vs:List Value}:q=false->oX A s q (v::vs) []
 | same {v w:Value} {vs ws:List Value}:SeqAt.EqAt A s v w true->oX A s q vs ws->oX A s q (v::vs) (w::ws)
 | apart {v w:Value} {vs ws:List Value}:SeqAt.EqAt A s v w false->(∀(prog:Program)(wd:World)(E:Value->Shared->Prop)(Q:Value->Shared->Prop),Q (.bool q) s->wpAny (model prog wd) A (richCompare .Lt v w) Q E s)->oX A s q (v::vs) (w::ws)
section
open PySem.SeqAt
open PySem.AutoSeq1 (wpAny_loadPart')
open PySem.MeetsSeq PySem.MeetsSeq2 PySem.MeetsSeq3
end
section
variable {X:Cx}{pins:Sk}{s:SE}{σ:L2.St}{H:Hp}
variable {l r:SN}{fa fb:Fe}{ga gb:Gr}{pos p:Pos}{k:Nat}
end
end Mi
namespace Mi
open PySem PySem.Spec PyProof.Rows L2
def Oi:D->Option Bool
 | .lst ds=>some !ds.isEmpty
 | _=>none
def fT(f:Fe):Fb:=λenv=>(f env).bind Oi
theorem Ee(h:PD X .cl e f)(he:∀whole,isTrue e X.env whole=(do let v <- whole;standAt e.pos;holding [v] (truthy v)):=by intro _;rfl):PB X e (fT f):=
 PT.imp (rk h he) λσ H Q aG=>by
  obtain⟨env,B,Z,b,R,e,k⟩:=aG;obtain⟨d,h1,h2⟩:=b_.mp e;cases d<;>cases h2;rename_i ds;refine⟨env,B,Z,_,R,h1,λv Z' H' x g=>?_⟩;obtain⟨a,vs,rfl,hq,rr⟩:=g;have hl:=rr.len;have:(!ds.isEmpty)=!vs.isEmpty:=by cases ds<;>cases vs<;>first | rfl | (simp at hl)
  exact⟨_,.inl ⟨vs,x.zh.seq hq,rfl⟩,by rw[<- this];exact k Z' H' x⟩
section
variable {prog:SF}{w:SI}{A:SG}{E:Sj}{s:SE}{it d:SM}{i ep:Nat}{es:Array DictEntry}{od:Obj}
theorem zJ(hit:s.heap.IsKeyIter it d i es.size ep)(ym:s.heap.get? d=some od)(Kn:od.data=.dict es ep)(hlt':i<es.size)
  (hQ:∀h',h'.IsKeyIter it d (i+1) es.size ep->Heap.SameBut it s.heap h'->Q (some es[i].key) {s with heap:=h'}):wpAny (model prog w) A (pyNext (.ref it)) Q E s:=by
 obtain⟨o,ho,hc,hd⟩:=id hit;unfold pyNext;refine a_ (QD (OP (name:="__next__") hit.typeIs Pa
  (OE Pa hit.typeIs F.entry_dict_keyiterator_next ?_ (F.args_dict_keyiterator_next_1 _))))
 refine a_ (d_ (a_ (a_ ?_)))
 first | refine a_ (Pm hit.typeIs (d_ ?_)) | refine a_ (PZ hit.typeIs (d_ ?_))
 refine a_ (RG ho hd ?_);have Hj:Builtin.Dict_items.ownsTuple "dict_keyiterator"=false:=by decide
 simp only[Hj,z_,OS];show wpAny _ _ (if(Value.ref d==Value.none)=true then _ else _) _ _ s;rw[l_ (show ¬((Value.ref d==Value.none)=true)from F_)];refine a_ (d_ (a_ (RQ ym Kn ?_)));rw[l_ (by simp)];refine a_ (d_ (a_ (wpAny_dictEpoch ym Kn ?_)));rw[l_ (by simp)];refine d_ ?_;simp only[show ¬((i:Int)<0)from by lia,OS,OC,O5 hlt'];refine a_ ?_
 first | refine a_ (Pm hit.typeIs (d_ ?_)) | refine a_ (PZ hit.typeIs (d_ ?_))
 refine a_ (wpAny_isOneOf_keyiter hit.typeIs ?_);show wpAny _ _ (setField (.ref it) 1 (rawInt ((i:Int)+1)) >>= _) _ _ s;refine a_ (Q3 ho hd (by simp) ?_);have Hk:(s.heap.update it (Obj.mapFields (·.setIfInBounds 1 (rawInt ((i:Int)+1))))).IsKeyIter it d (i+1) es.size ep:=
  ⟨_,Qg _ ho (Obj.isFreed_of_fields (QM hd _)),(Obj.cls_mapFields ..).trans hc,by rw[QM hd];simp[rawInt]⟩
 refine a_ (K_ ?_);refine a_ (wpAny_isOneOf_keyiter (s:={s with heap:=s.heap.update it (Obj.mapFields (·.setIfInBounds 1 (rawInt ((i:Int)+1))))}) Hk.typeIs ?_);show wpAny _ _ (pure es[i].key) _ _ _;exact d_ (d_ ⟨_,rfl,d_ (hQ _ Hk (OT ..))⟩)
theorem Cj(hh:A.handled=none)(hit:s.heap.IsKeyIter it d i es.size ep)(ym:s.heap.get? d=some od)(Kn:od.data=.dict es ep)(EF:es.size<=i)
  (hQ:∀h',Heap.ExtBut it s.heap h'->Q none {s with heap:=h'}):wpAny (model prog w) A (pyNext (.ref it)) Q E s:=by
 obtain⟨o,ho,hc,hd⟩:=id hit;unfold pyNext;refine a_ (QD (OP (name:="__next__") hit.typeIs Pa
  (OE Pa hit.typeIs F.entry_dict_keyiterator_next ?_ (F.args_dict_keyiterator_next_1 _))))
 refine a_ (d_ (a_ (a_ ?_)))
 first | refine a_ (Pm hit.typeIs (d_ ?_)) | refine a_ (PZ hit.typeIs (d_ ?_))
 refine a_ (RG ho hd ?_);have Hj:Builtin.Dict_items.ownsTuple "dict_keyiterator"=false:=by decide
 simp only[Hj,z_,OS];show wpAny _ _ (if(Value.ref d==Value.none)=true then _ else _) _ _ s;rw[l_ (show ¬((Value.ref d==Value.none)=true)from F_)];refine a_ (d_ (a_ (RQ ym Kn ?_)));rw[l_ (by simp)];refine a_ (d_ (a_ (wpAny_dictEpoch ym Kn ?_)));rw[l_ (by simp)];refine d_ ?_;simp only[show ¬((i:Int)<0)from by lia,OS,OC,Px EF];refine a_ ?_
 first | refine a_ (Pm hit.typeIs (d_ ?_)) | refine a_ (PZ hit.typeIs (d_ ?_))
 show wpAny _ _ (setField (.ref it) 0 .none >>= _) _ _ s;refine a_ (Q3 ho hd (by simp) ?_);show wpAny _ _ (newExc (.type "StopIteration") [] >>= _) _ _ _;refine a_ ?_;simp only[newExc,newTuple];refine a_ (OI ?_ (by size_fits));refine a_ (m:=firstArgMember _ _) (Rh (a:=Value.none) (by first | rfl | (simp only[firstArgMember];rfl)) ?_);refine OI ?_ (by size_fits);simp only[raiseNew];refine a_ (wpAny_handled ?_);rw[show A.in1.handled=none from hh];refine a_ (d_ (wpAny_throw ?_));refine a_ (Ra (T:="StopIteration") (b:=true) ⟨_,n_ _ rfl,rfl⟩ isSubtype_stop ?_);exact d_ (hQ _ (((OT ..).extBut.push _).push _))
theorem yx(hs:(d==sysModules)=false)(ho:s.heap.get? d=some od)(hc:od.ExactDict)(Ko:od.data=.dict es ep)
  (hQ:Q (.ref s.heap.objs.size) {s with heap:=s.heap.push {cls:=.type "dict_keyiterator",data:=.fields #[.ref d,.int 0 0,.int es.size 0,.int ep 0]}}):wpAny (model prog w) A (pyIter (.ref d)) Q E s:=by
 have hT:s.TypeIs (.ref d) "dict":=⟨od,ho,hc.1⟩;refine RS hT F.slot_dict_iter (OE F.slot_dict_iter hT F.entry_dict_iter ?_ (F.args_dict_iter_1 _));unfold Builtin.«dict.__iter__»;refine a_ ?_;unfold Builtin.Dict.dictSlotNone;refine a_ (wpAny_notOrdered_dict hT ?_);show wpAny _ _ (pure (Value.ref d)) _ _ s;refine d_ ?_;show wpAny _ _ (Builtin.Dict.showsAll d >>= _) _ _ s;unfold Builtin.Dict.showsAll;rw[l_ (by rw[hs];exact F_)];refine a_ (d_ (a_ (RQ ho Ko (a_ (wpAny_dictEpoch ho Ko ?_)))));exact a_ (OI (d_ ⟨_,rfl,"dict_keyiterator",_,⟨_,n_ _ rfl,rfl⟩,Pa.lookup,hQ⟩))
end
def N5(d:SM)(es:Array DictEntry)(ep:Nat)(h:SH):Prop:=∃o,h.get? d=some o/\o.ExactDict/\o.data=.dict es ep
section
variable {X:Cx}{l r e:SN}{fa fb:Fe}{ga gb:Gr}{pos p:Pos}{k:Nat}{th:Str->Int}
end
theorem LJ{α:Type}{p:List α->Prop}(h:∀a,p [a]):∀us:List α,us.length=1->p us
 | [a],_=>h a
theorem La{α:Type}{p:List α->Prop}(h:∀a b,p [a,b]):∀us:List α,us.length=2->p us
 | [a,b],_=>h a b
theorem Ll{α:Type}{p:List α->Prop}(h:∀a b c,p [a,b,c]):∀us:List α,us.length=3->p us
 | [a,b,c],_=>h a b c
theorem Ln{α:Type}{p:List α->Prop}(h:∀a b c d,p [a,b,c,d]):∀us:List α,us.length=4->p us
 | [a,b,c,d],_=>h a b c d
abbrev gg(K:Fg)(x:Str)(st:SO)(f:SM):Prop:=∃(oc kV dc pm cd ct:SC)(od an:Ss)(sl:Sl),PySem.W.nsIn K mainGlobals x=some (some (.ref f))/\K.lookup f=some ⟨oc,od,.func (PySem.W.fnOf x x (eF st) (bV st) (aM st) .none kV dc pm an cd ct),sl⟩/\PySem.W.codeIn K cd x=true/\PySem.W.keepIn K (.ref f)=true
section
variable {K:Fg}{h:SH}{mg:Sm}{x:Str}{st:SO}{f:SM}
theorem gg.fn(A:gg K x st f)(X:K.In h)(G:h.Ns mainGlobals mg):∃fd,A2 K x x st f fd/\PySem.W.keepIn K (.ref f)=true/\mg x=some (.ref f):=by
 obtain⟨_,_,_,_,_,_,_,_,_,a,l,c,k⟩:=A;exact⟨_,zF l c k,k,PySem.W.mg_of X G a⟩
theorem Ig{oc kV dc pm cd ct:SC}{od an:Ss}{sl:Sl}(a:PySem.W.nsIn K mainGlobals x=some (some (.ref f)))(l:K.lookup f=some ⟨oc,od,.func (PySem.W.fnOf x x (eF st) (bV st) (aM st) .none kV dc pm an cd ct),sl⟩)(c:PySem.W.codeIn K cd x=true)(k:PySem.W.keepIn K (.ref f)=true):gg K x st f:=⟨_,_,_,_,_,_,_,_,_,a,l,c,k⟩
variable {P:SF}{w:SI}{base:SH}{d n:Nat}{g:Gr}{m:SV->SW}{fd:SJ}{ps:Su}
theorem yv(O:ir P w K mg base sH d f fd ps (Be K n g m))(hk:PySem.W.keepIn K (.ref f)=true)(hm:mg x=some (.ref f))(hb:Binds K fd ps [])(hn:ps.length=n:=by rfl):∀j,d<=j->Ka P w K mg base j x n g m:=
 λ_ hj=>⟨f,fd,ps,hn,O.mono hj,hm,hk,hb⟩
end
theorem Cs{X:Cx}{rg:Gr}{st:SO}:SD X rg st (λ_=>none):=λpins s σ H E I ⟨_,_,_,_,_,e,_⟩=>by cases e
theorem yF{P:SF}{w:SI}{K:Fg}{mg:Sm}{base:SH}{k n:Nat}{f:SM}{fd:SJ}{ps:Su}{g:Gr}:ir P w K mg base sH k f fd ps (Be K n g λ_=>none):=
 ⟨λvs H Q E ⟨_,_,_,_,_,_,e,_⟩=>(by cases e),λA outer s H args us vs Q E _ _ _ _ ⟨_,_,_,_,_,_,e,_⟩=>(by cases e)⟩
structure Wd where
 P:Program
 w:World
 K:Fg
 mg:Str->Option Value
 base:Heap
abbrev Wd.Q(W:Wd)(d:Nat)(x:Str)(n:Nat)(g:Gr)(m:SV->SW):Prop:=∀j,d<=j->Ka W.P W.w W.K W.mg W.base j x n g m
abbrev Wd.At(W:Wd)(x:Str)(st:SO):Prop:=∃f fd,A2 W.K x x st f fd/\PySem.W.keepIn W.K (.ref f)=true/\W.mg x=some (.ref f)
theorem gg.at{K:Fg}{h:SH}{mg:Sm}{x:Str}{st:SO}{f:SM}(X:K.In h)(G:h.Ns mainGlobals mg)(A:gg K x st f):∃f fd,A2 K x x st f fd/\PySem.W.keepIn K (.ref f)=true/\mg x=some (.ref f):=
 let ⟨fd,a⟩:=A.fn X G
 ⟨f,fd,a⟩
abbrev Bi(x:Str)(st:SO)(ps:Su):Prop:=∀(kV doc pm:SC)(an:Ss)(dU ct:SC)(us:Sr),us.length=ps.length->bindArgs (PySem.W.fnOf x x (eF st) (bV st) (aM st) .none kV doc pm an dU ct) ⟨us,[]⟩=pure (ps.zip us)
variable {W:Wd}{x:Str}{st:SO}{k:Nat}{g:Gr}{fb:Fs}
theorem kr(N:Su)(n:Nat)(h:W.At x st)
  (hb:∀(dU:SC)(A:SG)(outer:List Env)(s:SE)(H:Hp)(E:XK)(f:SM),b8 k (A.deeper (envOfC x (aM st) s.sz f dU))->N.Nodup->tJ (lq sH W.P W.w W.K W.mg W.base N x (aM st) f dU A outer s H E).nox g (bV st) fb)
  (S:eG N (N.take n) (aM st):=by exact⟨rfl,rfl,rfl,by decide +kernel,rfl,by decide +kernel,by decide +kernel⟩)
  (hB:Bi x st (N.take n):=by intro _ _ _ _ _ _;first | exact LJ λ_=>rfl | exact La λ_ _=>rfl | exact Ll λ_ _ _=>rfl | exact Ln λ_ _ _ _=>rfl | exact ar5 λ_ _ _ _ _=>rfl):W.Q (k+1) x (N.take n).length g (bM fb N.length):=by
 obtain⟨f,fd,F,hk,hm⟩:=h;exact yv (Nt F S (λdU A outer s H E hr=>hb dU A outer s H E f hr S.nd) (λ_ _ _ e=>e)) hk hm (F.binds hB)
theorem Od(N:Su)(n:Nat)(F:A2 W.K x x st f fd)
  (hb:∀(dU:SC)(A:SG)(outer:List Env)(s:SE)(H:Hp)(E:XK)(f:SM),b8 k (A.deeper (envOfC x (aM st) s.sz f dU))->N.Nodup->tJ (lq sH W.P W.w W.K W.mg W.base N x (aM st) f dU A outer s H E).nox g (bV st) fb)
  (S:eG N (N.take n) (aM st):=by exact⟨rfl,rfl,rfl,by decide +kernel,rfl,by decide +kernel,by decide +kernel⟩):ir W.P W.w W.K W.mg W.base sH (k+1) f fd (N.take n) (Be W.K (N.take n).length g (bM fb N.length)):=
 Nt F S (λdU A outer s H E hr=>hb dU A outer s H E f hr S.nd) λ_ _ _ e=>e
theorem KD{m:Nat->SV->SW}{fb:Nat->Fs}(N:Su)(n i:Nat)(h:W.At x st)(h0:m 0=λ_=>none)(h1:∀i,m (i+1)=bM (fb i) N.length)
  (hb:∀i,Ka W.P W.w W.K W.mg W.base (k+i) x (N.take n).length g (m i)->∀(dU:SC)(A:SG)(outer:List Env)(s:SE)(H:Hp)(E:XK)(f:SM),b8 (k+i) (A.deeper (envOfC x (aM st) s.sz f dU))->N.Nodup->tJ (lq sH W.P W.w W.K W.mg W.base N x (aM st) f dU A outer s H E).nox g (bV st) (fb i))
  (S:eG N (N.take n) (aM st):=by exact⟨rfl,rfl,rfl,by decide +kernel,rfl,by decide +kernel,by decide +kernel⟩)
  (hB:Bi x st (N.take n):=by intro _ _ _ _ _ _;first | exact LJ λ_=>rfl | exact La λ_ _=>rfl | exact Ll λ_ _ _=>rfl | exact Ln λ_ _ _ _=>rfl | exact ar5 λ_ _ _ _ _=>rfl):W.Q (k+i) x (N.take n).length g (m i):=by
 induction i with
 | zero=>
  obtain⟨f,fd,F,hk,hm⟩:=h;exact λj _=>⟨f,fd,_,rfl,by rw[h0];exact yF,hm,hk,F.binds hB⟩
 | succ i c=>
  rw[h1];exact kr N n h (hb i (c (k+i) (h_ _))) S hB
section
variable {X:Cx}{k d n:Nat}{l:SN}{es:Sw}{fs:Fes}{m:SV->SW}{p pos:Pos}
theorem aW(C:∀j,d<=j->Ka X.prog X.w X.K X.mg X.base j x n g m)(hr:b8 k X.A)(hl:PL X (l::es) fs)(hd:d<=k:=by first | decide | omega)(hn:(l::es).length=n:=by rfl)(hg:Gl X x:=by rfl)(sS:(x==("__debug__":Str))=false:=by decide)
  (he:starEach (l::es) X.env=(false,eval l X.env)::starEach es X.env:=by rfl) (iO:(backTo pos (starEach es X.env)).any (·.1)=false:=by rfl):PD X g (.Call (.Name x p) (l::es) [] pos) (λenv=>(fs env).bind m):=fW (C k hd) hr hl hn hg sS he iO
end
end Mi
namespace Mi
open PySem PySem.Spec PyProof.Rows L2 Lm
def oM(g:D->SW):SV->Option Sz
 | []=>some []
 | d::ds=>(g d).bind λx=>match x with
  | .int n=>(oM g ds).bind λns=>some (n::ns)
  | _=>none
theorem lP{g:D->SW}:∀{ds:SV}{ns:Sz},oM g ds=some ns->ns.length=ds.length/\∀(i:Nat) d,ds[i]?=some d->g d=some (.int (ns.getD i 0))
 | [],ns,h=>by cases h;exact⟨rfl,λi d e=>by simp at e⟩
 | d::ds,ns,h=>by
  unfold oM at h;obtain⟨x,h1,h2⟩:=b_.mp h;cases x<;>try cases h2
  obtain⟨r,h3,h4⟩:=b_.mp h2;cases h4;obtain⟨e1,e2⟩:=lP h3;refine⟨by simp[e1],λi d' e=>?_⟩;cases i with
  | zero=>cases e;exact h1
  | succ i=>exact e2 i d' e
def jP(ns:Sz):Nat:=ns.findIdx λn=>ns.all λm=>decide (n<=m)
def DX(g:D->SW):D->SW
 | .lst ds=>(oM g ds).bind λns=>ds[jP ns]?
 | _=>none
def JJ(f:Fe)(caps:Sy)(fl:Fe):Fe:=λenv=>(f env).bind (DX λx=>fl ((cW 1 caps env).set 0 (.F x)))
theorem yY{ns:Sz}{i:Nat}(hi:i<ns.length)(h:∀j,j<ns.length->ns.getD i 0<=ns.getD j 0/\(j<i->ns.getD i 0<ns.getD j 0)):jP ns=i:=by
 have g:∀(j:Nat)(hj:j<ns.length),ns.getD j 0=ns[j]:=λj hj=>by rw[g_,f_ hj];rfl
 refine(List.findIdx_eq hi).mpr ⟨?_,λj hj=>?_⟩
 .rw[I_];intro m hm;obtain⟨k,hk,rfl⟩:=List.getElem_of_mem hm;have:=(h k hk).1;rw[g i hi,g k hk]at this;exact v_ this
 .have hj':=Qn hj hi;have:=(h j hj').2 hj;rw[g i hi,g j hj']at this;rw[Q5];intro z;rw[I_]at z;have:=OD (z _ (OL hi))
  lia
theorem Fw{X:Cx}{P c0:SM}{k:Nat}{g:Gr}{e body:SN}{params:Arguments}{scope:SL}{x0:Str}{fe fl:Fe}{Nc:Su}{caps:Sy}{cl:Sn}{p pos lpos JY:Pos}(hr:b8 (k+2) X.A)(hm:X.mg "min"=none)(bq:X.calm=true)
  (ht:tq X.K P=some (uu X)) (wt:X.env.code=.ref c0) (hC:PySem.W.codeHdIn X.K c0 P=true) (he:PD X g e fe)
  (g0:fN (λx=>X.env.cells.lookup x) scope.names []=some cl) (hN:Nc.map some=some x0::caps.map (λj=>X.N[j]?)) (eT:iz X scope caps=true)
  (hbody:∀f c s H pn,b8 k (X.A.in1.deeper (pE X scope cl f c s.sz))->PD (qN X X.A.in1 scope cl Nc f c s H pn) .cl body fl)
  (h0:scope.names.lookup x0=some .local:=by rfl) (bJ:scope.kind=.function:=by rfl) (hnc:∀y∈scope.names,y.2≠.cell:=by decide +kernel) (hco:scope.isCoroutine=false:=by rfl) (Hh:scope.isGenerator=false:=by rfl)
  (hb:∀c ctv u,bindArgs (wQ X params body scope cl c ctv) ⟨[u],[]⟩=pure [(x0,u)]:=by intro _ _ _;rfl) (Hg:defaultsOf params X.env=([],[]):=by rfl)
  (hg:Gl X "min":=by rfl) (hst:starEach [e] X.env=(false,eval e X.env)::starEach [] X.env:=by rfl)
  (h1:backTo pos (starEach [e] X.env)=(false,eval e X.env)::backTo pos (starEach [] X.env):=by rfl) (h2:(backTo pos (starEach [e] X.env)).any (·.1)=false:=by rfl) :
  PD X .cl (.Call (.Name "min" p) [e] [⟨some "key",.Lambda params body scope lpos,JY⟩] pos) (JJ fe caps fl):=by
 intro pins s σ H Q I aG;obtain⟨env,B,Z,d,R,e1,kk⟩:=aG;obtain⟨d1,e2,e3⟩:=b_.mp e1;cases d1<;>try cases e3
 rename_i ds;obtain⟨ns,e4,e5⟩:=b_.mp e3;obtain⟨hlen,gh⟩:=lP e4;have hpos:0<ds.length:=by
  obtain⟨z,_⟩:=o_.mp e5
  lia
 refine P9 (gM I hg hm PyProof.Rows.boot_min ?_ (by decide) (by decide));refine callWith_kw (br (bF he c6 hst pos pins s σ H (λvs H1=>∃l xs Z1,vs=[.ref l]/\Ex Z H Z1 H1/\cT X.K H1 l xs/\ar X.K Z1 ds xs) I ⟨env,B,Z,_,R,e2,λv Z1 H1 x1 g1=>?_⟩) λus s1 aG=>?_) h1 h2 rfl rfl
 .obtain⟨l,xs,rfl,hq,rr⟩:=g1.lst x1.zh;exact⟨l,xs,Z1,rfl,x1,hq,rr⟩
 obtain⟨vs,H1,I1,r1,l,xs,Z1,rfl,x1,hS,rr⟩:=aG;obtain⟨u,rfl,rx⟩:=vals1 r1;cases rx;show wpAny _ _ (evalAll [(do let v <- eval (.Lambda params body scope lpos) X.env;standAt pos;pure v)]) _ _ s1;refine wpAny_evalAll_cons (a_ (Fv I1 (I1.tb P _ ht) wt (PySem.W.codeHd_of_K I.ok.mod.kin hC) I.ok.mod.bmod (fU g0) Hg λf c H2 s2 I2 sm KO hc hf=>a_ (Pf (d_ (wpAny_evalAll_nil ?_)))));show wpAny _ _ (call (.builtin "min") [.ref l] [("key",.ref f)]) _ _ s2;have x2:Ex Z1 H1 Z1 H2:=⟨sm,aK.refl _,x1.zh.trans sm,λ_ _ h=>h,λ_ _ _ h=>h⟩;have R2:=(R.ext x1).ext x2;have hxl:=rr.len;refine B7 (kf:=λi=>ns.getD i 0) (A:=X.A) (I.ok.hd bq) (sm.seq hS) I2 x2.zh (by lia) (λi v u hv ru AZ s' Z' H' I' x'=>?_) λi v u s' Z' H' hv ru yc I' x'=>?_
 .obtain⟨d,hd,rep⟩:=rr.getV hv;exact AK (k:=k+1) I' (R2.ext x') I.ok.frames hr.in1 (x'.h _ _ hf) (x'.h _ _ hc) (hb c) hco Hh g0 bJ hnc hN eT h0 (λs H pn=>hbody f c s H pn (hr.in1.deeper _)) ru (Rep.mono x'.z d rep) (gh i d hd)
 .obtain⟨d',hd,rep⟩:=rr.getV hv;have hi:i<ns.length:=by rw[hlen];exact(o_.mp hd).1
  rw[yY hi λj hj=>yc j (by lia),hd]at e5;cases e5;exact⟨v,H',I',ru,kk v Z' H' ((x1.trans x2).trans x') (Rep.mono x'.z _ rep)⟩
abbrev Wd.AtC(W:Wd)(x:Str)(st:SO)(c:SM):Prop:=∃f fd,A2 W.K x x st f fd/\fd.code=.ref c/\PySem.W.keepIn W.K (.ref f)=true/\W.mg x=some (.ref f)
theorem gg.atC{K:Fg}{h:SH}{mg:Sm}{x:Str}{st:SO}{f c P:SM}(X:K.In h)(G:h.Ns mainGlobals mg)(A:gg K x st f)(ht:PySem.W.tabIn K x=some (c,P)):∃f fd,A2 K x x st f fd/\fd.code=.ref c/\PySem.W.keepIn K (.ref f)=true/\mg x=some (.ref f):=by
 obtain⟨fd,F,h1,h2⟩:=A.fn X G;refine⟨f,fd,F,?_,h1,h2⟩;obtain⟨oc,od,kV,doc,pm,an,dU,ct,Bp,rfl,lk,iP⟩:=F.ex;obtain⟨_,_,_,_,_,_,_,_,_,aL,_⟩:=A;unfold PySem.W.tabIn at ht;rw[aL]at ht;dsimp only at ht;rw[lk]at ht;dsimp only[PySem.W.fnOf]at ht ⊢;cases dU<;>try cases ht
 rename_i c';dsimp only at ht
 split at ht
 .split at ht
  .cases ht;rfl
  .cases ht
 .cases ht
structure Lam(W:Wd)(x:Str)(c P:Addr):Prop where
 t:tq W.K P=some (x++".<locals>."++"<lambda>")
 c:PySem.W.codeHdIn W.K c P=true
theorem N7{K:Fg}{c P:SM}(h0:PySem.W.tabIn K "best_in"=none)(h:PySem.W.tabIn K "best_shown"=some (c,P)):tq K P=some (("best_shown":Str)++".<locals>."++"<lambda>"):=by
 unfold tq FS;rw[Qt,show PySem.W.tabIn K "best_in"=none from h0,Qt,show PySem.W.tabIn K "best_shown"=some (c,P)from h];simp only[Option.bind_none,M_,PV]
section
variable {W:Wd}{x:Str}{st:SO}{k:Nat}{g:Gr}{fb:Fs}{c:SM}
theorem Ld(N:Su)(n:Nat)(h:W.AtC x st c)
  (hb:∀(A:SG)(outer:List Env)(s:SE)(H:Hp)(E:XK)(f:SM),b8 k (A.deeper (envOfC x (aM st) s.sz f (.ref c)))->N.Nodup->tJ (lq sH W.P W.w W.K W.mg W.base N x (aM st) f (.ref c) A outer s H E).nox g (bV st) fb)
  (S:eG N (N.take n) (aM st):=by exact⟨rfl,rfl,rfl,by decide +kernel,rfl,by decide +kernel,by decide +kernel⟩)
  (hB:Bi x st (N.take n):=by intro _ _ _ _ _ _;first | exact LJ λ_=>rfl | exact La λ_ _=>rfl | exact Ll λ_ _ _=>rfl | exact Ln λ_ _ _ _=>rfl | exact ar5 λ_ _ _ _ _=>rfl):W.Q (k+1) x (N.take n).length g (bM fb N.length):=by
 obtain⟨f,fd,F,hc,hk,hm⟩:=h;refine yv ?_ hk hm (F.binds hB);obtain⟨oc,od,kV,doc,pm,an,dU,ct,Bp,rfl,lk,iP⟩:=F.ex;cases(show dU=.ref c from hc);refine DY lk iP S (λvs H Q E ⟨Z,ds,d,hl,_,r,_⟩=>by rw[<- r.len];exact hl) λA outer s H vs Q E hr aG=>?_;obtain⟨Z,ds,d,hl,s1,r,e,kk⟩:=aG;refine⟨_,nJ.nox (hb A outer s H E f hr S.nd),?_⟩;obtain⟨o,e1,e2⟩:=b_.mp e;refine⟨_,H,Z,o,Rl.start s1 r,e1,?_⟩;cases o with
 | rt d'=>cases e2;exact kk
 | nx _=>cases e2
 | bk _=>cases e2
 | ct _=>cases e2
end
end Mi
namespace L2
open PySem PySem.Spec PyProof.Rows
theorem zO{l:PySem.W.OpenLaw}{n k:Nat}{q:SF}{loose:Su}{XP:Sm->SH->Prop}{YP:SI->SH->Prop}{d:DefRec}{K:Params->SB}{CX:SI->CXT}{sp:SI->Sp}{x:Str}
  (hn:l.most=some n) (hn2:n<=sizeLine) (J5:d.params.defaults=[]) (hr:b8 k callerA)
  (hY:∀(w:SI)(h:SH),YP w h->(K w.params).In h)
  (hL:∀(w:SI)(h:SH),YP w h->∀P qq,tq (K w.params) P=some qq->(∃c,PySem.W.CodeHd h c P)/\h.get? P=some (PySem.W.tabObj #[])/\(K w.params).lookup P=none)
  (F:∀(w:SI)(mg:Sm)(fa:SM)(h:SH),(K w.params).In h->h.Ns mainGlobals mg->mg d.name=some (.ref fa)->
   ∃fd:SJ,(∀(s:SE)(u:SC),BindsTo s fd ⟨[u],[]⟩ [(x,u)])/\
    ∀base:SH,(K w.params).In base->base.Ns mainGlobals mg->ir l.prog w (K w.params) mg base (CX w) k fa fd [x] (sp w))
  (uP:∀(w:SI)(H:Hp)(a:SM)(ns:Sz),ns.length<=n->Gj H->cT (K w.params) H a (ns.map V.int)->sp w [.ref a] H (λv _=>v=.bl true) λ_ _ _=>False)
  (hCX:∀(w:SI)(H:Hp)(s:SE)(e:SC)(s':SE),CX w [] H s (λ_ _ _=>False) e s'->False) :
  PySem.W.WalkO q loose XP YP l.row.toRowW d [] (λf vs=>PySem.call f vs):=by
 refine Att.sy hn J5 λw s₀ s₁ mg mb fa o pm cd doc a vs ns G Y ho hd iP hmg G3 hints hlen hg=>?_;have KX:=hY w _ Y;obtain⟨fd,hb,hF⟩:=F w mg fa _ KX G.T.g hmg;have hbm:=G.T.bmain;refine AL KX G.T.g G.T.b G.T.builtins G.T.nolimit hg (by obtain⟨bm,ob,b1,b2,b3,b4,b5,b6⟩:=hbm;exact⟨bm,ob,b1,b2,b3,b4,b5,b6⟩) (λP qq e=>?_) G3 hints (C_ hlen hn2) hr hF hb (λH hO hS=>uP w H a ns hlen hO hS) λH e s'=>hCX w H s₁ e s';exact hL w _ Y P qq e
theorem FW{K:SB}{h:SH}{c P:SM}(X:K.In h)(hc:PySem.W.codeHdIn K c P=true)(hn:PySem.W.noTabs K=true)(ho:h.get? P=some (PySem.W.tabObj #[])):(∃c,PySem.W.CodeHd h c P)/\h.get? P=some (PySem.W.tabObj #[])/\K.lookup P=none:=by
 refine⟨⟨c,PySem.W.codeHd_of_K X hc⟩,ho,?_⟩;cases hk:K.lookup P with
 | none=>rfl
 | some o=>
  have e5:=X _ _ hk;rw[ho]at e5;cases e5;have h3:=I_.mp hn _ (PySem.W.mem_of_lookupK hk);exact absurd (show false=true from h3) F_
theorem II{K:SB}{h:SH}{c P0:SM}(X:K.In h)(h1:PySem.W.tabIn K "best_in"=none)(h2:PySem.W.tabIn K "best_shown"=some (c,P0))(hc:PySem.W.codeHdIn K c P0=true)(hn:PySem.W.noTabs K=true)(ho:h.get? P0=some (PySem.W.tabObj #[])) :
  ∀P qq,tq K P=some qq->(∃c,PySem.W.CodeHd h c P)/\h.get? P=some (PySem.W.tabObj #[])/\K.lookup P=none:=λP qq e=>by
 have hP:P0=P:=by
  unfold tq FS at e;rw[Qt,show PySem.W.tabIn K "best_in"=none from h1,Qt,show PySem.W.tabIn K "best_shown"=some (c,P0)from h2]at e
  by_cases hP:P0=P
  .exact hP
  .simp[hP]at e
 subst hP;exact FW X hc hn ho
end L2
namespace Mi
open PySem
theorem Gk{K:Fg}{x:Str}{f c P:SM}{oc occ:SC}{od odc:Ss}{fd:SJ}{vs:Array SC}{sl slc:Sl}(a:PySem.W.nsIn K mainGlobals x=some (some (.ref f)))(l:K.lookup f=some ⟨oc,od,.func fd,sl⟩)(e:fd.code=.ref c)(k:K.lookup c=some ⟨occ,odc,.fields vs,slc⟩)(p:vs[11]?=some (.ref P)):PySem.W.tabIn K x=some (c,P):=by
 unfold PySem.W.tabIn;rw[a];dsimp only;rw[l];dsimp only;rw[e];dsimp only;rw[k];dsimp only;rw[p]
theorem yX{K:Fg}{x:Str}(a:PySem.W.nsIn K mainGlobals x=some none):PySem.W.tabIn K x=none:=by
 unfold PySem.W.tabIn;rw[a]
end Mi
namespace Mi
open PySem PySem.Spec PyProof.Rows L2
section
variable {prog:SF}{w:SI}{K:Type}[DecidableEq K]{knd:HeapKind prog w K}{A:SG}{E:Sj}{s:SE}{a b:SM}{xa xb:List (K×SM×SC)}
end
section
variable {X:Cx}{l r:SN}{fa fb:Fe}{ga gb:Gr}{pos p:Pos}{k:Nat}{th:Str->Int}
end
end Mi
namespace Mi
open PySem PySem.Spec PyProof.Rows L2
open PySem.W (KasT kas_rev kas_asc kas_desc kas_tail3 kas_descPart kas_count kas_place kas_bin kas_sort)
def eZ{α:Type}(lt:Nat->Nat->Bool):KasT α->α
 | .ret a=>a
 | .ask i j k=>eZ lt (k (lt i j))
theorem ft{α β:Type}(lt:Nat->Nat->Bool)(f:α->KasT β):∀t:KasT α,eZ lt (t.bind f)=eZ lt (f (eZ lt t))
 | .ret _=>rfl
 | .ask i j k=>ft lt f (k (lt i j))
section
variable {key:Nat->Int}{n:Nat}
def kl(key:Nat->Int):Nat->Nat->Bool:=λi j=>decide (key i<key j)
def ka(key:Nat->Int)(p:Array Nat)(i:Nat):Int:=key (p.getD i 0)
def Ak(key:Nat->Int)(p:Array Nat)(b:Nat):Prop:=∀i j,i<=j->j<b->ka key p i<=ka key p j
def Lz(key:Nat->Int)(p:Array Nat)(b:Nat):Prop:=∀i j,i<=j->j<b->ka key p j<=ka key p i
def kIn(key:Nat->Int)(p:Array Nat):Prop:=∀i j,i<j->j<p.size->ka key p i≠ka key p j
theorem oz{p:Array Nat}{j:Nat}(hj:j<=p.size)(k:Nat):ka key (kas_rev p 0 j) k=if k<j then ka key p (j-1-k)else ka key p k:=by
 have e:=getElem?_mirror_all (xs:=p) (i:=0) hj k;unfold ka kas_rev;simp only[Rx,e,Py,true_and,Oy]
 split<;>rfl
theorem oo{p:Array Nat}{k l:Nat}(hs:k<p.size)(hl:l<=k)(i:Nat):ka key (bubble p k (k-l)) i=if i=l then ka key p k else if l<i/\i<=k then ka key p (i-1)else ka key p i:=by
 have e:=getElem?_bubble (xs:=p) hs (k-l) (by lia) i;rw[show k-(k-l)=l by lia]at e;unfold ka;simp only[Rx,e]
 split
 .rfl
 .split<;>rfl
theorem Gw{p:Array Nat}:Ak key p 1:=λi j a b=>by
 have:i=j:=by lia
 subst this;exact QQ _
theorem tY{p:Array Nat}:∀(f m:Nat),1<=m->Ak key p m->m<=eZ (kl key) (kas_asc p f m)/\eZ (kl key) (kas_asc p f m)<=m+f/\Ak key p (eZ (kl key) (kas_asc p f m))/\
  (eZ (kl key) (kas_asc p f m)=m+f\/ka key p (eZ (kl key) (kas_asc p f m))<ka key p (eZ (kl key) (kas_asc p f m)-1))
 | 0,m,h1,hu=>⟨h_ _,h_ _,hu,.inl rfl⟩
 | f+1,m,h1,hu=>by
  show _<=eZ _ (if kl key (p.getD m 0) (p.getD (m-1) 0)=true then .ret m else kas_asc p f (m+1))/\eZ _ (if kl key (p.getD m 0) (p.getD (m-1) 0)=true then .ret m else kas_asc p f (m+1))<=_/\Ak key p (eZ _ (if kl key (p.getD m 0) (p.getD (m-1) 0)=true then .ret m else kas_asc p f (m+1)))/\(eZ _ (if kl key (p.getD m 0) (p.getD (m-1) 0)=true then .ret m else kas_asc p f (m+1))=_\/ka key p (eZ _ (if kl key (p.getD m 0) (p.getD (m-1) 0)=true then .ret m else kas_asc p f (m+1)))<ka key p (eZ _ (if kl key (p.getD m 0) (p.getD (m-1) 0)=true then .ret m else kas_asc p f (m+1))-1))
  by_cases hl:ka key p m<ka key p (m-1)
  .rw[k_ (show kl key (p.getD m 0) (p.getD (m-1) 0)=true from v_ hl)];exact⟨h_ _,by show m<=_;lia,hu,.inr hl⟩
  .rw[l_ (show ¬kl key (p.getD m 0) (p.getD (m-1) 0)=true from λz=>hl (OD z))];have HH:Ak key p (m+1):=λi j a b=>by
    by_cases hj:j<m
    .exact hu i j a hj
    .have:j=m:=by lia
     subst this
     by_cases hi:i=j
     .subst hi;exact QQ _
     .exact QX (hu i (j-1) (by lia) (by lia)) (Int.not_lt.mp hl)
   obtain⟨a,b,c,d⟩:=tY f (m+1) (by lia) HH;exact⟨by lia,by lia,c,d.imp (λe=>by lia) id⟩
theorem we{p:Array Nat}(hi:kIn key p):∀(f m:Nat),1<=m->m+f<=p.size->Lz key p m->∃x,eZ (kl key) (kas_desc f p m 0)=(p,x,0)/\m<=x/\x<=m+f/\Lz key p x
 | 0,m,h1,_,hd=>⟨m,rfl,h_ _,h_ _,hd⟩
 | f+1,m,h1,hz,hd=>by
  show ∃x,eZ _ (if kl key (p.getD m 0) (p.getD (m-1) 0)=true then(if 0>0 then _ else kas_desc f p (m+1) 0)else KasT.ask (p.getD (m-1) 0) (p.getD m 0) λd=>if d=true then .ret (p,m,0)else kas_desc f p (m+1) (0+1))=_/\_
  by_cases hl:ka key p m<ka key p (m-1)
  .rw[k_ (show kl key (p.getD m 0) (p.getD (m-1) 0)=true from v_ hl),l_ (by lia)];have JU:Lz key p (m+1):=λi j a b=>by
    by_cases hj:j<m
    .exact hd i j a hj
    .have:j=m:=by lia
     subst this
     by_cases yg:i=j
     .subst yg;exact QQ _
     .exact QX (Ry hl) (hd i (j-1) (by lia) (by lia))
   obtain⟨x,a,b,c,d⟩:=we hi f (m+1) (by lia) (by lia) JU;exact⟨x,a,by lia,by lia,d⟩
  .rw[l_ (show ¬kl key (p.getD m 0) (p.getD (m-1) 0)=true from λz=>hl (OD z))];have h2:ka key p (m-1)<ka key p m:=by have:=hi (m-1) m (by lia) (by lia);lia
   show ∃x,eZ _ (if kl key (p.getD (m-1) 0) (p.getD m 0)=true then _ else _)=_/\_;rw[k_ (show kl key (p.getD (m-1) 0) (p.getD m 0)=true from v_ h2)];exact⟨m,rfl,h_ _,by lia,hd⟩
theorem y9{p:Array Nat}(hi:kIn key p)(h1:1<=p.size):∃m p',eZ (kl key) (kas_count p.size p)=(m,p')/\1<=m/\m<=p.size/\p'.Perm p/\Ak key p' m:=by
 unfold kas_count;rw[ft];obtain⟨a,b,c,d⟩:=tY (key:=key) (p:=p) (p.size-1) 1 (h_ _) Gw;generalize eZ (kl key) (kas_asc p (p.size-1) 1)=m at a b c d
 by_cases e:m=p.size
 .rw[k_ (by simpa using e)];exact⟨m,p,rfl,a,by lia,.refl _,c⟩
 .rw[l_ (by simpa using e)];have hlt:=d.resolve_left (by lia)
  by_cases hg:m>1
  .rw[k_ hg];show ∃m' p',eZ _ (if kl key (p.getD 0 0) (p.getD (m-1) 0)=true then _ else _)=_/\_;have h2:ka key p 0<ka key p (m-1):=by have:=hi 0 (m-1) (by lia) (by lia);have:=c 0 (m-1) (by lia) (by lia);lia
   rw[k_ (show kl key (p.getD 0 0) (p.getD (m-1) 0)=true from v_ h2)];exact⟨m,p,rfl,a,by lia,.refl _,c⟩
  .rw[l_ hg];have:m=1:=by lia
   subst this;unfold kas_descPart;rw[ft];obtain⟨x,e1,x1,x2,x3⟩:=we hi (p.size-(1+1)) (1+1) (by lia) (by lia) (λi j a b=>by
    by_cases yg:i=j
    .subst yg;exact QQ _
    .have e1:i=0:=by lia
     have e2:j=1:=by lia
     subst e1;subst e2;exact Ry hlt)
   rw[e1];rw[l_ (by show ¬0>0;lia)];unfold kas_tail3;rw[ft];have hu:Ak key (kas_rev p 0 x) x:=λi j a b=>by
    rw[oz (by lia),oz (by lia),k_ (by lia),k_ (by lia)];exact x3 _ _ (by lia) (by lia)
   obtain⟨a',b',c',d'⟩:=tY (p.size-x) x (by lia) hu;exact⟨_,_,rfl,by show 1<=eZ _ (kas_asc (kas_rev p 0 x) (p.size-x) x);lia,by show eZ _ (kas_asc (kas_rev p 0 x) (p.size-x) x)<=_;lia,mirror_perm _ _ _ _,c'⟩
theorem gD{p:Array Nat}{k:Nat}(hu:Ak key p k):∀(f l r:Nat),l<=r->r<=k->r-l<=f->(∀i,i<l->ka key p i<=ka key p k)->(∀i,r<=i->i<k->ka key p k<ka key p i)->
  ∃x,eZ (kl key) (kas_place p k f l r)=x/\x<=k/\(∀i,i<x->ka key p i<=ka key p k)/\(∀i,x<=i->i<k->ka key p k<ka key p i)
 | 0,l,r,h1,h2,h3,h4,h5=>⟨l,rfl,by lia,h4,λi a b=>h5 i (by lia) b⟩
 | f+1,l,r,h1,h2,h3,h4,h5=>by
  unfold kas_place
  by_cases hg:l>=r
  .rw[k_ hg];exact⟨l,rfl,by lia,h4,λi a b=>h5 i (by lia) b⟩
  .rw[l_ hg];show ∃x,eZ _ (if kl key (p.getD k 0) (p.getD ((l+r)/2) 0)=true then _ else _)=_/\_
   by_cases hl:ka key p k<ka key p ((l+r)/2)
   .rw[k_ (show kl key (p.getD k 0) (p.getD ((l+r)/2) 0)=true from v_ hl)];exact gD hu f _ _ (by lia) (by lia) (by lia) h4 λi a b=>Int.lt_of_lt_of_le hl (hu _ _ a b)
   .rw[l_ (show ¬kl key (p.getD k 0) (p.getD ((l+r)/2) 0)=true from λz=>hl (OD z))];exact gD hu f _ _ (by lia) (by lia) (by lia) (λi a=>QX (hu i _ (by lia) (by lia)) (Int.not_lt.mp hl)) h5
theorem yA:∀(f:Nat)(p:Array Nat)(k:Nat),k+f=p.size->Ak key p k->(eZ (kl key) (kas_bin f p k)).Perm p/\Ak key (eZ (kl key) (kas_bin f p k)) p.size
 | 0,p,k,h,hu=>⟨.refl _,by rw[<- h];exact hu⟩
 | f+1,p,k,h,hu=>by
  unfold kas_bin;rw[ft];obtain⟨x,e,x1,x2,x3⟩:=gD hu k 0 k (Py _) (h_ _) (by lia) (λi a=>by lia) λi a b=>by lia
  rw[e];have hz:(bubble p k (k-x)).size=p.size:=bubble_size _ _ _;obtain⟨a,b⟩:=yA f (bubble p k (k-x)) (k+1) (by lia) λi j yg hj=>by
   rw[oo (by lia) x1,oo (by lia) x1]
   repeat' split
   all_goals first
    | (exfalso;lia)
    | exact QQ _
    | exact x2 _ (by lia)
    | exact Ry (x3 _ (by lia) (by lia))
    | exact hu _ _ (by lia) (by lia)
  rw[hz]at b;exact⟨a.trans (bubble_perm _ _ _),b⟩
theorem Dl(hn:1<=n)(hi:∀i j,i<j->j<n->key i≠key j):(eZ (kl key) (kas_sort n)).toList.Perm (List.range n)/\(eZ (kl key) (kas_sort n)).toList.Pairwise λi j=>key i<=key j:=by
 have hs:(List.toArray (List.range n)).size=n:=by simp
 have hg:∀i,i<n->(List.toArray (List.range n)).getD i 0=i:=λi h=>by simp[Array.getD,h]
 have qC:kIn key (List.toArray (List.range n)):=λi j a b=>by
  rw[hs]at b;unfold ka;rw[hg i (by lia),hg j b];exact hi i j a b
 have main:(eZ (kl key) (kas_sort n)).Perm (List.toArray (List.range n))/\Ak key (eZ (kl key) (kas_sort n)) n:=by
  unfold kas_sort;rw[ft];obtain⟨m,p',e,m1,m2,hp,hu⟩:=y9 qC (by lia);rw[hs]at e m2;rw[e];have hz:p'.size=n:=by rw[hp.size_eq,hs]
  by_cases hl:m<n
  .rw[k_ (show(m,p').1<n from hl)];show(eZ _ (kas_bin (n-max m 1) p' (max m 1))).Perm _/\_;rw[show max m 1=m by lia];obtain⟨a,b⟩:=yA (n-m) p' m (by lia) hu;rw[hz]at b;exact⟨a.trans hp,b⟩
  .rw[l_ (show ¬(m,p').1<n from hl)];have:m=n:=by lia
   subst this;exact⟨hp,hu⟩
 obtain⟨hp,hu⟩:=main;refine⟨by simpa using RH.mp hp,OQ.mpr λi j h1 h2 yg=>?_⟩;have hz:(eZ (kl key) (kas_sort n)).size=n:=by rw[hp.size_eq,hs]
 have:=hu i j (by lia) (by simpa [hz]using h2);unfold ka at this;simp only[OF]at h1 h2;simpa [Array.getD,h1,h2]using this
end
end Mi
namespace Mi
open PySem PySem.Spec PyProof.Rows L2
open PySem.W (KasT kas_sort kas_ask kat_run kat_snds kas_rev kas_asc kas_desc kas_tail3 kas_descPart kas_count kas_place kas_bin)
def pL{α:Type}(n:Nat)(P:α->Prop):KasT α->Prop
 | .ret a=>P a
 | .ask i j k=>(i<n/\j<n)/\∀b,pL n P (k b)
section
variable {n:Nat}{p:Array Nat}
theorem fj{α β:Type}{f:α->KasT β}{P:α->Prop}{R:β->Prop}(h:∀a,P a->pL n R (f a)):∀{t:KasT α},pL n P t->pL n R (t.bind f)
 | .ret a,g=>h a g
 | .ask _ _ k,⟨g,q⟩=>⟨g,λb=>fj h (q b)⟩
def gd(n:Nat)(p:Array Nat):Prop:=(0<n/\p.size=n)/\∀x∈p.toList,x<n
theorem gd.at(h:gd n p)(i:Nat):p.getD i 0<n:=by
 by_cases hi:i<p.size
 .rw[show p.getD i 0=p[i] by simp[Array.getD,hi]];exact h.2 _ (by simp)
 .rw[show p.getD i 0=0 by simp[Array.getD,hi]];exact h.1.1
theorem gd.perm{q:Array Nat}(h:gd n p)(e:q.Perm p):gd n q:=⟨⟨h.1.1,e.size_eq.trans h.1.2⟩,λx hx=>h.2 x ((RH.mp e).mem_iff.mp hx)⟩
theorem gd.rev(h:gd n p)(i j:Nat):gd n (kas_rev p i j):=h.perm (mirror_perm _ _ _ _)
theorem uD(h:gd n p):∀(f m:Nat),pL n (λ_=>True) (kas_asc p f m)
 | 0,_=>trivial
 | f+1,m=>⟨⟨h.at _,h.at _⟩,λb=>by
  cases b
  .exact uD h f (m+1)
  .trivial⟩
theorem la:∀(f:Nat)(p:Array Nat)(m q:Nat),gd n p->pL n (λr=>gd n r.1) (kas_desc f p m q)
 | 0,_,_,_,h=>h
 | f+1,p,m,q,h=>⟨⟨h.at _,h.at _⟩,λb=>by
  cases b
  .refine⟨⟨h.at _,h.at _⟩,λb=>?_⟩;cases b
   .exact la f p (m+1) (q+1) h
   .exact h
  .show pL n _ (if q>0 then _ else _)
   split
   .exact la f _ _ _ (h.rev _ _)
   .exact la f _ _ _ h⟩
theorem vY(h:gd n p)(m k:Nat):pL n (λr=>gd n r.2) (kas_tail3 m k p):=fj (n:=n) (P:=λ_=>True) (R:=λr=>gd n r.2) (f:=λx=>KasT.ret (x,kas_rev p 0 m)) (λ_ _=>h.rev 0 m) (uD (h.rev 0 m) _ _)
theorem vS(h:gd n p)(m k:Nat):pL n (λr=>gd n r.2) (kas_descPart m k p):=fj (λa ha=>by
 show pL n _ (if a.2.2>0 then _ else _)
 split
 .exact vY (ha.rev _ _) _ _
 .exact vY ha _ _) (la _ _ _ _ h)
theorem zX(h:gd n p)(k:Nat):pL n (λr=>gd n r.2) (kas_count k p):=fj (λa _=>by
 split
 .exact h
 .split
  .refine⟨⟨h.at _,h.at _⟩,λb=>?_⟩;cases b
   .exact vS (h.rev _ _) _ _
   .exact h
  .exact vS h _ _) (uD h _ _)
theorem lN(h:gd n p)(k:Nat):∀(f l r:Nat),pL n (λ_=>True) (kas_place p k f l r)
 | 0,_,_=>trivial
 | f+1,l,r=>by
  unfold kas_place
  split
  .trivial
  .refine⟨⟨h.at _,h.at _⟩,λb=>?_⟩;cases b
   .exact lN h k f _ _
   .exact lN h k f _ _
theorem zE:∀(f:Nat)(p:Array Nat)(k:Nat),gd n p->pL n (gd n) (kas_bin f p k)
 | 0,_,_,h=>h
 | f+1,p,k,h=>fj (λ_ _=>zE f _ _ (h.perm (bubble_perm _ _ _))) (lN h k _ _ _)
theorem k0(h:0<n):pL n (gd n) (kas_sort n):=fj (λa ha=>by
 split
 .exact zE _ _ _ ha
 .exact ha) (zX ⟨⟨h,by simp⟩,λx hx=>by simpa using hx⟩ n)
theorem pL.out{α:Type}{P:α->Prop}{lt:Nat->Nat->Bool}:∀{t:KasT α},pL n P t->P (eZ lt t)
 | .ret _,h=>h
 | .ask i j k,h=>pL.out (t:=k (lt i j)) (h.2 (lt i j))
end
theorem cE.len{h:SH}:∀{vs:Sr}{kss:SQ},cE h vs kss->vs.length=kss.length
 | [],[],_=>rfl
 | [],_::_,t=>t.elim
 | _::_,[],t=>t.elim
 | _::_,_::_,t=>by rw[H_,H_,cE.len t.2]
def Jq(kss:SQ)(i j:Nat):Bool:=(dP (kss.getD i []) (kss.getD j [])).getD false
def cY(kss:SQ):Sy:=if kss.length<2 then List.range kss.length else(eZ (Jq kss) (kas_sort kss.length)).toList
def uC(kss:SQ):Bool:=kss.all vQ&&kss.all λx=>kss.all λy=>(dP x y).isSome
theorem kW{kss:SQ}:∀i∈cY kss,i<kss.length:=by
 intro i hi;unfold cY at hi
 split at hi
 .simpa using hi
 .exact(k0 (by lia)).out.2 i hi
theorem sr(kss:SQ):(cY kss).length=kss.length:=by
 unfold cY
 split
 .simp
 .rw[OF];exact(k0 (by lia)).out.1.2
section
variable {prog:SF}{w:SI}{A:SG}{E:Sj}{s:SE}
theorem yK{α:Type}{n:Nat}{cmp:Nat->Nat->(Bool->SE->Prop)->SE->Prop}{lt:Nat->Nat->Bool}{s:SE}(hc:∀i j (C:Bool->SE->Prop),i<n->j<n->C (lt i j) s->cmp i j C s){P:α->Prop}{Q:α->SE->Prop}:∀{t:KasT α},pL n P t->Q (eZ lt t) s->t.kasWp cmp Q s
 | .ret _,_,h=>h
 | .ask i j k,⟨g,q⟩,h=>hc i j _ g.1 g.2 (yK hc (q (lt i j)) h)
theorem kA{a:SM}{vs:Sr}{kss:SQ}{n:Nat}{P:PySem.Fin->SE->Prop}(ho:s.heap.get? a=some (seqObj "list" vs.toArray n))
  (ht:cE s.heap vs kss) (hx:uC kss=true) (Bu:vs.length<64)
  (h:P (.done (.ret .none)) {s with heap:=sortedHeap s.heap a vs ((cY kss).map λi=>vs.getD i .none).toArray}) :
  wpAny (model prog w) A (Builtin.«list.sort» ⟨[.ref a],[]⟩) P E s:=by
 rw[list_sort_plain];have ha:a<s.sz:=r_ ho;have hz:vs.length<=sizeLine:=by have:=OJ;lia
 refine a_ (listItems_at ho rfl ?_);refine a_ (listUpdate_at ho rfl ?_ (by simpa using hz) (by simp));obtain⟨e1,NO⟩:∃e1,(s.heap.update a (Obj.mapSeq λ_=>#[])).get? a=some (seqObj "list" #[] e1):=⟨_,Rp ho (λ_=>#[])⟩;refine a_ (seqEpoch_at NO rfl ?_);refine a_ (wpAny_newTuple ?_);refine a_ (QA ?_);refine K_ ?_;have K3:(((s.heap.update a (Obj.mapSeq λ_=>#[])).push (seqObj "tuple" vs.toArray 0)).push (seqObj "list" #[] 0)).get? a=some (seqObj "list" #[] e1):=by
  rw[Heap.get?_push_ne _ _ _ (by rw[size_push',Q_];exact y_ (Pp ha)),Heap.get?_push_ne _ _ _ (by rw[Q_];exact y_ ha)];exact NO
 show wpAny (model prog w) A _ P E {s with heap:=((s.heap.update a (Obj.mapSeq λ_=>#[])).push (seqObj "tuple" vs.toArray 0)).push (seqObj "list" #[] 0)};have K4:cE (((s.heap.update a (Obj.mapSeq λ_=>#[])).push (seqObj "tuple" vs.toArray 0)).push (seqObj "list" #[] 0)) vs kss:=ht.keeps λb o hb hc=>by
  refine e_ _ (e_ _ ?_);rw[Heap.get?_update_ne _ _ _ _ (λz=>?_)]
  .exact hb
  .subst z;rw[ho]at hb;cases hb;injection (show Value.type "list"=Value.type "tuple" from hc)with e;exact absurd e (by decide)
 dsimp only;have hsz:vs.toArray.size=vs.length:=by simp
 have hl:=ht.len;unfold uC at hx;rw[A_]at hx
 by_cases h2:vs.toArray.size<2
 .have G0:(vs.toArray.zip vs.toArray).map (·.2)=((cY kss).map λi=>vs.getD i .none).toArray:=by
   unfold cY;rw[k_ (by lia),<- hl];apply Array.ext
   .simp
   .intro i h1 h2;simp at h1 h2;simp[h1]
  rw[k_ h2,k_ h2];refine a_ (d_ ?_);rw[StateT.run_pure];refine a_ (d_ ?_);dsimp only;refine a_ (seqEpoch_at K3 rfl ?_);refine a_ (listUpdate_at K3 rfl ?_ (hsz2:=by rw[Array.size_map];rw[Array.size_zip,hsz,Sa];lia));simp only[bne_self_eq_false,z_,OS];refine d_ ?_;show P (.done (.ret .none)) {s with heap:=(((s.heap.update a (Obj.mapSeq λ_=>#[])).push (seqObj "tuple" vs.toArray 0)).push (seqObj "list" #[] 0)).update a (Obj.mapSeq λ_=>(vs.toArray.zip vs.toArray).map (·.2))};rw[G0];exact h
 .rw[l_ h2,l_ h2];obtain⟨fs,f1,f2,f3⟩:=K4.firsts hx.1;refine a_ (PySem.W.kat_kind (T:=.type "int") f1 (by lia) (λv hv=>?_) (by simp) ?_)
  .obtain⟨m,t,rfl⟩:=f3 v hv;exact PySem.W.Looks.now
  rw[show(Value.type "int" != Value.type "tuple")=true by decide];have Kp:∀i,i<vs.length->∃b o xs k ks,vs.getD i Value.none=.ref b/\(((s.heap.update a (Obj.mapSeq λ_=>#[])).push (seqObj "tuple" vs.toArray 0)).push (seqObj "list" #[] 0)).get? b=some o/\o.cls=.type "tuple"/\o.data=.seq xs k/\kss[i]?=some ks/\cM xs.toList ks:=λi hi=>K4.at (i:=i) (v:=vs.getD i .none) (by rw[g_,f_ hi];rfl);refine a_ (OX (kat_run (ks:=vs) (vs:=vs) (κ:=tuples' true) (G:=λp s'=>s'={s with heap:=((s.heap.update a (Obj.mapSeq λ_=>#[])).push (seqObj "tuple" vs.toArray 0)).push (seqObj "list" #[] 0)}/\p.toList=cY kss)
   (Q:=λoW s'=>s'={s with heap:=((s.heap.update a (Obj.mapSeq λ_=>#[])).push (seqObj "tuple" vs.toArray 0)).push (seqObj "list" #[] 0)}/\failedOf oW=none/\(cY kss).length=vs.length/\(arrOf oW).map (·.2)=List.toArray ((cY kss).map λi=>vs.getD i Value.none)) rfl (by lia) Bu
   (λp oW s' a1 a2 a3 a4=>⟨a4.1,a3,by rw[<- a4.2,OF,a1],by rw[kat_snds rfl a2,a4.2]⟩) (yK (lt:=Jq kss) (λi j C hi hj hC=>?lt) (k0 (by lia)) ⟨rfl,?od⟩)) ?post λ_ _ e=>e)
  case od=>unfold cY;rw[l_ (by lia),hl]
  case lt=>
   obtain⟨b,o,xs,k,ks,e3,c1,c2,c3,c4,c5⟩:=Kp i hi;obtain⟨b',o',xs',k',ig,e4,d1,d2,d3,d4,d5⟩:=Kp j hj;show wpAny (model prog w) A (keyLt' _ (vs.getD i Value.none) (vs.getD j Value.none)) C _ _;rw[e3,e4];refine PySem.W.kat_lt c1 c3 d1 d3 ?_;have hd:decide (xs.size<xs'.size)=decide (xs.toList.length<xs'.toList.length):=by simp
   rw[hd];have m1:=Ox c4;have m2:=Ox d4;obtain⟨q,hq⟩:=Option.isSome_iff_exists.mp (I_.mp (I_.mp hx.2 _ m1) _ m2);refine F2 c5 d5 hq (λ_=>⟨I_.mp hx.1 _ m1,I_.mp hx.1 _ m2⟩) ?_;unfold Jq at hC;rw[g_,g_,c4,d4]at hC;dsimp only[Option.getD_some]at hC;rw[hq]at hC;exact hC
  case post=>
   rintro⟨⟨⟩,oW⟩ s' ⟨rfl,hf,ye,hp⟩;dsimp only at hp hf ⊢;rw[hf,hp];refine a_ (seqEpoch_at K3 rfl ?_);refine a_ (listUpdate_at K3 rfl ?_ (hsz2:=by rw[p_,c_,ye];lia));simp only[bne_self_eq_false,z_,OS];exact d_ h
theorem BQ{a:SM}{o:Obj}{n:Nat}{vs:Sr}{kss:SQ}{Q:Sj}(ho:s.heap.get? a=some o)(hc:o.cls=.type "list"\/o.cls=.type "tuple")(hd:o.data=.seq vs.toArray n)
  (ht:cE s.heap vs kss) (hx:uC kss=true) (Bu:vs.length<64)
  (q:Q (.ref (s.sz+1)) {s with heap:=sortedAll s.heap vs ((cY kss).map λi=>vs.getD i .none).toArray}):wpAny (model prog w) A (call (.builtin "sorted") [.ref a]) Q E s:=by
 refine Qq QB plain_sorted entry_sorted (args_sorted1 _) ?_;unfold Builtin.«sorted»;refine a_ (m:=checkCount "sorted" 1 1 _) (d_ (a_ (qV ho hc hd (a_ (QA ?_)) (by have:=OJ;lia))));have z1:((s.heap.push (seqObj "list" #[] 0)).update s.sz (Obj.mapSeq (·++vs.toArray))).objs.size=s.sz+1:=by rw[Q_,size_push']
 have z2:(((s.heap.push (seqObj "list" #[] 0)).update s.sz (Obj.mapSeq (·++vs.toArray))).push (seqObj "list" vs.toArray 0)).get? (s.sz+1)=some (seqObj "list" vs.toArray 0):=by
  rw[<- z1];exact n_ _ rfl
 show wpAny _ _ _ _ _ {s with heap:=((s.heap.push (seqObj "list" #[] 0)).update s.sz (Obj.mapSeq (·++vs.toArray))).push (seqObj "list" vs.toArray 0)};rw[z1];have K4:cE (((s.heap.push (seqObj "list" #[] 0)).update s.sz (Obj.mapSeq (·++vs.toArray))).push (seqObj "list" vs.toArray 0)) vs kss:=ht.keeps λb o hb hc=>by
  refine e_ _ ?_;rw[Heap.get?_update_ne _ _ _ _ (y_ (r_ hb))];exact e_ _ hb
 exact a_ (K_ (OE slot_list_sort ⟨_,z2,rfl⟩ entry_list_sort (kA z2 K4 hx Bu ⟨_,rfl,d_ ⟨_,rfl,q⟩⟩) (args_list_sort _)))
end
def sF:D->SW
 | .lst ds=>(jY ds).bind λkss=>if ds.length<64/\uC kss=true then some (.lst ((cY kss).map λi=>ds.getD i .non))else none
 | _=>none
section
variable {X:Cx}{l r:SN}{fa fb:Fe}{ga gb:Gr}{pos p:Pos}
def yT(K:Fg):SX->Hp->VK->Prop:=λxs H Q=>∃(a:SM)(vs:SX)(kss:SQ),xs=[.ref a]/\cT K H a vs/\rb K H vs kss/\vs.length<64/\uC kss=true/\∀q,H q=none->Q (.ref q) (upd H q (.lst ((cY kss).map λi=>vs.getD i .non)))
theorem rb.len{K:Fg}{H:Hp}:∀{vs:SX}{kss:SQ},rb K H vs kss->vs.length=kss.length
 | [],[],_=>rfl
 | [],_::_,t=>t.elim
 | _::_,[],t=>t.elim
 | _::_,_::_,t=>by rw[H_,H_,rb.len t.2]
theorem j5{vs:SX}{us:Sr}(r:av vs us):∀{is:Sy},(∀i∈is,i<vs.length)->av (is.map λi=>vs.getD i .non) (is.map λi=>us.getD i .none)
 | [],_=>.nil
 | i::is,h=>by
  have hi:=h i (j_ ..);obtain⟨u,h5,h6⟩:=av.get r (f_ hi);refine .cons ?_ (j5 r λj hj=>h j (i_ _ hj));dsimp only;rw[g_,g_,h5,f_ hi];exact h6
theorem qg:dq X (.builtin "sorted") (yT X.K):=by
 intro pins s σ H xs us Q I rs h;obtain⟨a,vs,kss,rfl,hq,ht,Bu,hx,q⟩:=h;obtain⟨u,rfl,rx⟩:=vals1 rs;cases rx;obtain⟨aX,rv,pl,hz⟩:=I.list hq;obtain⟨o,ho,hc,n,hd⟩:=pl.isList;have hl:=rv.length;refine BQ ho (.inl hc) hd (ht.heap I rv) hx (by lia) ?_;obtain⟨e,he⟩:=sortedAll_at s.heap aX ((cY kss).map λi=>aX.getD i .none).toArray;have hk:=ht.len;have v2:=j5 rv (is:=cY kss) λi hi=>by have:=kW i hi;lia
 refine⟨.ref _,_,I.laid (t':=s.toks) (o:=.lst ((cY kss).map λi=>vs.getD i .non)) (λb o z=>sortedAll_old z) (QP _) ⟨?_,_,e,v2,by simpa using he⟩,rfl,q _ (I.hok.fresh (QP _))⟩;rw[c_,sr];lia
theorem n5{K:Fg}{Z:Hp}{ds:SV}{vs:SX}(r:ar K Z ds vs):∀{is:Sy},(∀i∈is,i<ds.length)->ar K Z (is.map λi=>ds.getD i .non) (is.map λi=>vs.getD i .non)
 | [],_=>rfl
 | i::is,h=>by
  have hi:=h i (j_ ..);obtain⟨u,h5,h6⟩:=r.get (f_ hi);refine ar.cons ?_ (n5 r λj hj=>h j (i_ _ hj));dsimp only;rw[g_,g_,h5,f_ hi];exact h6
theorem B6{K:Fg}:gN K .nw sF (yT K):=λ{Z H x dx d Q} s h e k=>by
 cases dx<;>try cases e
 obtain⟨kss,h1,h2⟩:=b_.mp e;obtain⟨hl,rfl⟩:=ma h2;obtain⟨a,vs,rfl,q,rr⟩:=h.lst s;have ht:=rb.of h1 rr;have hk:=ht.len;have vl:=rr.len;exact⟨a,vs,kss,rfl,q,ht.mono s,by lia,hl.2,λp hp=>k _ Z _ (Ex.newL s hp) ⟨p,_,_,rfl,rfl,hp,ax,s.free hp,n5 rr λi hi=>by have:=kW i hi;lia⟩⟩
theorem v7(hm:X.mg "sorted"=none)(ha:PD X ga l fa)(hg:Gl X "sorted":=by rfl)(he:starEach [l] X.env=[(false,eval l X.env)]:=by rfl):PD X .nw (.Call (.Name "sorted" p) [l] [] pos) (bc sF fa):=
 r6 qg B6 QC hm ha (by decide) (by decide) hg he
end
end Mi
namespace Mi
open PySem PySem.Spec PyProof.Rows L2
section
variable {X:Cx}{l r:SN}{fa fb:Fe}{ga gb:Gr}{pos p:Pos}
end
def cS:D->D->SW
 | .int i,.int j=>some (.int (Builtin.bitAnd i j))
 | _,_=>none
def oZ:D->D->SW
 | .int i,.int j=>if decide (0<=j/\j<=1000000/\i.natAbs<2 ^ 64)then some (.int (i*2 ^ j.toNat))else none
 | _,_=>none
section
variable {X:Cx}{l r:SN}{fa fb:Fe}{ga gb:Gr}{pos p:Pos}
theorem Fz{K:Fg}:cI K .cl cS (tN λi j=>.int (Builtin.bitAnd i j)):=hV (by intro _ _ _;rfl)
theorem Jm{K:Fg}:cI K .cl oZ (rI JK λi j=>.int (i*2 ^ j.toNat)):=mI (λi j h=>OD h) (by intro _ _ _;rfl)
theorem jO(ha:PD X ga l fa)(hb:PD X gb r fb):PD X .cl (.BinOp l .BitAnd r pos) (ai cS fa fb):=nk Gm Fz ha hb
theorem Al(ha:PD X ga l fa)(hb:PD X gb r fb):PD X .cl (.BinOp l .LShift r pos) (ai oZ fa fb):=nk Fp Jm ha hb
theorem jm(i j:Nat):cS (.int i) (.int j)=some (.int ((i &&& j:Nat):Int)):=by
 show some (D.int (Builtin.bitAnd i j))=_;congr 2
def Nn:D->Option Bool
 | .int i=>some (i != 0)
 | _=>none
def LX(f:Fe):Fb:=λenv=>(f env).bind Nn
theorem ET{e:SN}{f:Fe}(h:PD X .cl e f)(he:∀whole,isTrue e X.env whole=(do let v <- whole;standAt e.pos;holding [v] (truthy v)):=by intro _;rfl):PB X e (LX f):=
 PT.imp (rk h he) λσ H Q aG=>by
  obtain⟨env,B,Z,b,R,e,k⟩:=aG;obtain⟨d,h1,h2⟩:=b_.mp e;cases d<;>cases h2;refine⟨env,B,Z,_,R,h1,λv Z' H' x g=>?_⟩;cases g.int;exact⟨_,rfl,k Z' H' x⟩
def yB:D->SW
 | .int i=>some (.int ((Builtin.Int.intBits i:Nat):Int))
 | _=>none
theorem BN:LV X "int.bit_length" (λx vs H Q=>∃i,x=.int i/\vs=[]/\Q (.int ((Builtin.Int.intBits i:Nat):Int)) H):=by
 intro pins s σ H x xs v us Q I rx rv h;obtain⟨i,rfl,rfl,q⟩:=h;cases rv;obtain⟨t,rfl⟩:=(show ∃t,v=Value.int i t from rx);exact call_gives Rz (typeIs_int s _ t) PySem.F.entry_int_bit_length (PySem.F.args_int_bit_length_1 _) (PySem.AutoIntG2.int_bit_length_int_0 i t) ⟨.int _,H,I.kept (t':=s.toks+1) (λ_ _ e=>e),⟨_,rfl⟩,q⟩
theorem GC{o:SN}{apos bK:Pos}(ha:PD X .cl o fa)(gY:attributeBase o "bit_length" X.env (eval o X.env)=eval o X.env:=by rfl)(gZ:(apos.endLine==bK.line)=true:=by rfl) :
  PD X .cl (.Call (.Attribute o "bit_length" apos) [] [] bK) (bc yB fa):=
 PE.imp (GY PySem.F.plainAttrs_int Rz PySem.F.type_int_bit_length BN ha gY gZ) λσ H Q aG=>by
 obtain⟨env,B,Z,d,R,e,kq⟩:=aG;obtain⟨da,e1,e⟩:=b_.mp e;cases da<;>try cases e
 refine⟨env,B,Z,_,R,e1,λv Z1 H1 x1 g1=>?_⟩;cases g1.int;exact⟨rfl,_,rfl,rfl,kq _ Z1 H1 x1 rfl⟩
end
def gx(n:Nat)(lo hi st:Option Int):Sy:=sliceRange (sliceBounds lo hi st n).1 (sliceBounds lo hi st n).2.1 (sliceBounds lo hi st n).2.2
def bL{α:Type}(xs:List α)(is:Sy):List α:=is.filterMap (xs[·]?)
theorem Co(aX:Sr)(lo hi st:Option Int):slicePick aX.toArray lo hi st=(bL aX (gx aX.length lo hi st)).toArray:=by
 unfold slicePick bL gx;simp only[p_,List.getElem?_toArray]
theorem iS{vs:SX}{us:Sr}(r:av vs us):∀is:Sy,av (bL vs is) (bL us is)
 | []=>.nil
 | i::is=>by
  have hl:=r.length;unfold bL
  by_cases hi:i<vs.length
  .obtain⟨u,h5,h6⟩:=av.get r (f_ hi);rw[OK,OK,h5,f_ hi];exact .cons h6 (iS r is)
  .rw[OK,OK,Ou (by lia),Ou (by lia)];exact iS r is
theorem fK{K:Fg}{Z:Hp}{ds:SV}{vs:SX}(r:ar K Z ds vs):∀is:Sy,ar K Z (bL ds is) (bL vs is)
 | []=>rfl
 | i::is=>by
  have hl:=r.len;unfold bL
  by_cases hi:i<ds.length
  .obtain⟨u,h5,h6⟩:=r.get (f_ hi);rw[OK,OK,h5,f_ hi];exact ar.cons h6 (fK r is)
  .rw[OK,OK,Ou (by lia),Ou (by lia)];exact fK r is
section
variable {X:Cx}{l:SN}{fa:Fe}{ga:Gr}{pos p2:Pos}{lo hi st:Option SN}{fl fh fs:Fo}
def Oo(K:Fg)(te:TE)(tl th ts:TO):TE:=λσ H Q=>te σ H λx H1=>tl σ H1 λi H2=>th σ H2 λj H3=>ts σ H3 λn H4=>n≠some 0/\∃a xs,x=.ref a/\cT K H4 a xs/\(bL xs (gx xs.length i j n)).length<=xs.length/\∀q,H4 q=none->Q (.ref q) (upd H4 q (.lst (bL xs (gx xs.length i j n))))
theorem Ia{e:SN}{te:TE}{tl th ts:TO}{se:SN}(he:PE X e te)(hl:PO X lo tl)(hh:PO X hi th)(hs:PO X (some se) ts):PE X (.Subscript e (.Slice lo hi (some se) p2) pos) (Oo X.K te tl th ts):=by
 intro pins s σ H Q I h;refine Subscript_ (br (he pins s σ H _ I h) λv s1 aG=>?_);obtain⟨x,H1,I1,r1,q1⟩:=aG;refine wpAny_Slice ?_;refine br (hl pins s1 σ H1 _ I1 q1) λvl s2 aG=>?_;obtain⟨i,H2,I2,pl,q2⟩:=aG;refine br (hh pins s2 σ H2 _ I2 q2) λvu s3 aG=>?_;obtain⟨j,H3,I3,pu,q3⟩:=aG;refine br (hs pins s3 σ H3 _ I3 q3) λKk s4 aG=>?_;obtain⟨n,H4,I4',ps,hn,a,xs,rfl,hx,hle,q⟩:=aG;cases r1;have I4:Inv X pins σ H4 {s4 with heap:=s4.heap.push {cls:=.type "slice",data:=.fields #[vl,vu,Kk]}}:=I4'.kept λb ob z=>e_ _ z;obtain⟨aX,rv,ht,hz⟩:=I4.list hx;have hlen:=rv.length;show wpAny (model X.prog X.w) X.A (subscriptTail e (.Slice lo hi (some se) p2) (.ref a) (.ref s4.sz)) (EP X pins σ Q) X.xe {s4 with heap:=s4.heap.push {cls:=.type "slice",data:=.fields #[vl,vu,Kk]}};refine tail_any ht.isList.typeIs QV.lookup ?_ (by with_unfolding_all rfl);refine Qy ht.isList (Heap.IsSliceOf.new ..) pl pu ps hn ?_ (by rw[p_]<;>lia);rw[Co,<- hlen];exact⟨.ref _,_,I4.laid (o:=.lst (bL xs (gx xs.length i j n))) (λb ob z=>e_ _ z) (h_ _) ⟨C_ hle hz,_,0,iS rv _,n_ _ rfl⟩,rfl,q _ (I4.hok.fresh (h_ _))⟩
def Oc:D->Option Int->Option Int->Option Int->SW
 | .lst ds,i,j,n=>if n≠some 0/\(bL ds (gx ds.length i j n)).length<=ds.length then some (.lst (bL ds (gx ds.length i j n)))else none
 | _,_,_,_=>none
def KG(f:Fe)(lo hi st:Fo):Fe:=λenv=>(f env).bind λx=>(lo env).bind λi=>(hi env).bind λj=>(st env).bind λn=>Oc x i j n
theorem Mc{se:SN}(ha:PD X ga l fa)(hl:CH X lo fl)(hh:CH X hi fh)(hs:CH X (some se) fs):PD X .nw (.Subscript l (.Slice lo hi (some se) p2) pos) (KG fa fl fh fs):=PE.imp (Ia ha hl hh hs) λσ H Q aG=>by
 refine cN λ_ kq=>?_;obtain⟨env,B,Z,d,R,e,k⟩:=aG;obtain⟨x,h1,e⟩:=b_.mp e;obtain⟨i,h2,e⟩:=b_.mp e;obtain⟨j,h3,e⟩:=b_.mp e;obtain⟨n,h4,e⟩:=b_.mp e;cases x<;>try cases e
 rename_i ds _ _ _;obtain⟨hc,rfl⟩:=ma e;refine kq (⟨env,B,Z,_,R,h1,λv Z1 H1 x1 g1=>⟨env,B,Z1,i,R.ext x1,h2,λZ2 H2 x2=>⟨env,B,Z2,j,(R.ext x1).ext x2,h3,λZ3 H3 x3=>⟨env,B,Z3,n,((R.ext x1).ext x2).ext x3,h4,λZ4 H4 x4=>?_⟩⟩⟩⟩)
 all_goals clear kq
 obtain⟨a,vs,rfl,hq,rr⟩:=Gd.lst x4.zh (Gd.later (H3:=H4) x4 (Gd.later (H3:=H4) x3 (Gd.later (H3:=H4) x2 g1)));have hv:=rr.len;have hp:=(fK rr (gx ds.length i j n)).len;refine⟨hc.1,a,vs,rfl,hq,by rw[<- hv,<- hp];exact hc.2,λq hp=>?_⟩;have x0:=((x1.trans x2).trans x3).trans x4;exact k _ Z4 _ (x0.trans (Ex.newL x4.zh hp)) ⟨q,_,_,rfl,rfl,x0.h.free hp,ax,x4.zh.free hp,by rw[<- hv];exact fK rr _⟩
end
section
variable {X:Cx}{rg:Gr}{pos:Pos}
def tj:Nat->Fb->Fs->Fs
 | 0,_,_=>λ_=>none
 | n+1,c,b=>λenv=>(c env).bind λt=>if t=true then(b env).bind λo=>match o with
  | .nx e=>tj n c b e
  | .ct e=>tj n c b e
  | .bk e=>some (.nx e)
  | .rt d=>some (.rt d)else some (.nx env)
theorem pU(n:Nat)(hp:PassesOwn (model X.prog X.w) X.A X.env X.xe)(hc:PB X c fc)(hb:tJ X rg body fb):SD X rg (.While c body [] pos) (tj n fc fb):=PS.imp (Ad hp hc hb) λE σ H aG=>by
 obtain⟨env,B,Z,o,R,e,k⟩:=aG;refine⟨λm σ H=>∃env' Z',Ex Z B Z' H/\Rl X.K B Z' H env' σ/\tj m fc fb env'=some o,⟨n,env,Z,(Ex.refl R.zh).part R.bh,R,e⟩,?_⟩;rintro m σ1 H1 ⟨env',Z',x1,R1,e1⟩;cases m with
 | zero=>cases e1
 | succ m=>
  unfold tj at e1;obtain⟨t,e2,e3⟩:=b_.mp e1;refine⟨env',B,Z',t,R1,e2,λZ2 H2 x2=>?_⟩;have R2:=R1.ext x2;have x3:=x1.transB (x2.part R1.bh);show if t=true then _ else _;cases t with
  | false=>
   rw[l_ (by simp)]at e3 ⊢;cases e3;exact k σ1 Z2 H2 x3 R2
  | true=>
   rw[k_ rfl]at e3 ⊢;obtain⟨o1,e4,e5⟩:=b_.mp e3;refine⟨λσ H=>∃env' Z',Ex Z B Z' H/\Rl X.K B Z' H env' σ/\tj m fc fb env'=some o,λσ' H' n=>⟨m,Nat.lt_succ_self _,n⟩,env',B,Z2,o1,R2,e4,?_⟩;cases o1 with
   | nx e=>exact λσ5 Z5 H5 x5 R5=>⟨e,Z5,x3.transB x5,R5,e5⟩
   | ct e=>exact λσ5 Z5 H5 x5 R5=>⟨e,Z5,x3.transB x5,R5,e5⟩
   | bk e=>cases e5;exact λσ5 Z5 H5 x5 R5=>k σ5 Z5 H5 (x3.transB x5) R5
   | rt d=>cases e5;exact λv Z5 H5 x5 g5=>k v Z5 H5 (x3.transB x5) g5
def Dj(i:Nat)(f:Fe):Fe:=λenv=>match env[i]? with
 | some (.O (.L ds))=>(f (env.set i (.F (.lst ds)))).bind λd=>match d with | .int n=>some (.int n) | _=>none
 | _=>none
theorem F3(i:Nat)(h:PD X .cl e f):PD X .cl e (Dj i f):=PE.imp h λσ H Q aG=>by
 obtain⟨env,B,Z,d,R,e,k⟩:=aG;unfold Dj at e
 split at e
 .rename_i ds hi;obtain⟨d',e1,e2⟩:=b_.mp e;obtain⟨y,e3,a,o,e4,e5,e6,r⟩:=R.sl i _ hi;subst e4;have R1:=R.frzX hi e3 e5 e6 r;refine⟨_,B,_,d',R1,e1,λv Z' H' x g=>?_⟩;cases d'<;>cases e2;exact k v (era Z' a) H' (x.unfrz e6 e5) (show v=_ from g)
 .cases e
theorem yL(hh:A.handled=none)(hl:IsTup s.heap l (x::y::xs).toArray)(hz:xs.length+2<=sizeLine)
  (hQ:∀(h':SH)(tk:Nat),(∀b o,s.heap.get? b=some o->h'.get? b=some o)->Q [x,y,.ref h'.objs.size] {s with heap:=h'.push {cls:=.type "list",data:=.seq xs.toArray},toks:=tk}):wpAny (model P w) A (unpackItems (.ref l) 3 (some 2)) Q E s:=by
 have hlt:l≠s.sz:=by obtain⟨o,ho,_⟩:=hl;exact y_ (r_ ho)
 unfold unpackItems;refine a_ ?_;unfold notIterableAtAll;refine a_ (Qb hl.typeIs slot_tuple_iter.lookup (d_ ?_));simp only[z_,OS];refine a_ (K_ (iter_tuple hl ?_));refine a_ (K_ (draw_tuple hlt 2 0 _ _ ⟨_,n_ _ rfl,rfl,rfl⟩ (hl.push _) (by simp) λh₁ Hl hs₁=>?_));have NP:IsTup h₁ l (x::y::xs).toArray:=(hl.push _).extBut hs₁.extBut hlt;rw[Oy]at Hl;have hit₁':=Hl;obtain⟨oi,EG,_⟩:=hit₁';have hl₁':=NP;obtain⟨ol,ye,_⟩:=hl₁';rw[show(((x::y::xs).toArray.toList.drop 0).take 2)=[x,y]from rfl,l_ (show ¬([x,y].length<2) by simp)];refine a_ (K_ (PySem.W.kun_collect (s:={s with heap:=h₁}) (T:="tuple_iterator") (.inr (.inr (.inr rfl))) (Walks.tuple (A:=A.in1) hh s.sz l hlt (x::y::xs).toArray) (λj u st=>st.1.typeIs) (k:=2) (by simp) ⟨Hl,NP⟩ (r_ EG) (r_ ye) (λh₂ tk hk=>?_) (by simpa using hz)));rw[show((x::y::xs).toArray.toList.drop 2)=xs from rfl];show wpAny _ _ (if xs.length<0 then _ else _) _ _ _;rw[l_ (by lia)];show wpAny _ _ (newList (xs.take (xs.length-0)) >>= λd=>pure ([x,y]++[d]++xs.drop (xs.length-0))) _ _ _;rw[Nat.sub_zero,O3,List.drop_length];have he:Heap.ExtBut s.sz s.heap h₂:=λb o hb e=>hk b o hb (hs₁.extBut b o hb (e_ _ e));exact a_ (OI (d_ (hQ h₂ tk λb o e=>he b o (y_ (r_ e)) e)) (by show xs.toArray.size<=sizeLine;rw[p_];lia))
def E7(K:SB)(t:TGs):TG:=λv σ H Q=>∃a x y xs,v=.ref a/\cH K H a (x::y::xs)/\∀p,H p=none->t [x,y,.ref p] σ (upd H p (.lst xs)) Q
theorem yz(hc:X.calm=true)(h:wz X es t)(hn:(assignEach es X.env).length=3:=by rfl)(hst:(assignEach es X.env).findIdx? (·.1)=some 2:=by rfl):PG X (.Tuple es k pos) (E7 X.K t):=by
 intro pins s σ H v u Q I r hw;obtain⟨a,x,y,xs,e1,hq,hw⟩:=hw;subst e1;cases r;obtain⟨aX,rv,pl,hz⟩:=I.tuple hq;cases rv with
 | @cons _ u0 _ us r0 rr=>
 cases rr with
 | @cons _ u1 _ us r1 rr=>
 have hlen:=rr.length;rw[RJ];refine a_ (Pf ?_);unfold unpack;rw[hst,hn];have MJ:us.length+2<=sizeLine:=by simp only[H_]at hz;lia
 refine a_ (K_ (yL (I.ok.hd hc) pl MJ λh' tk hx=>?_));have I1:Inv X pins σ H {s with heap:=h',toks:=tk}:=I.kept hx;have I2:=I1.lnew (t':=tk) rr (by lia);exact h pins _ σ _ _ _ Q I2 (.cons r0 (.cons r1 (.cons (show L2.RelV (.ref h'.objs.size) (Value.ref h'.objs.size)from rfl) .nil))) (hw _ I1.fresh)
def Gs(i j l:Nat):Ft:=λd env=>match d with
 | .tup (a::b::ds)=>some (((env.set i (.F a)).set j (.F b)).set l (.F (.lst ds)))
 | _=>none
theorem GO(i j l:Nat):km [i,j,l] (Gs i j l):=by
 have inv:∀{d:D}{env env':En},Gs i j l d env=some env'->∃a b c,env'=((env.set i (.F a)).set j (.F b)).set l (.F c):=λ{d env env'} h=>by
  unfold Gs at h
  split at h
  .cases h;exact⟨_,_,_,rfl⟩
  .cases h
 refine⟨λh=>?_,λh q hq=>?_,λh q ds hq=>?_⟩
 .obtain⟨a,b,c,rfl⟩:=inv h;simp
 .obtain⟨a,b,c,rfl⟩:=inv h;simp only[s_,OR,P_,not_or]at hq;rw[q_ (Pw hq.2.2),q_ (Pw hq.2.1),q_ (Pw hq.1)]
 .obtain⟨a,b,c,rfl⟩:=inv h;exact jA (jA (jA hq))
theorem CT(i j l:Nat)(hc:X.calm=true)(hN:X.N.Nodup)(hi:X.N[i]?=some x:=by rfl)(hj:X.N[j]?=some y:=by rfl)(hl:X.N[l]?=some z:=by rfl)
  (hx:Loc X.env.scope x:=by first | exact Or.inl rfl | exact Or.inr rfl) (hy:Loc X.env.scope y:=by first | exact Or.inl rfl | exact Or.inr rfl) (hz:Loc X.env.scope z:=by first | exact Or.inl rfl | exact Or.inr rfl)
  (hf:X.fn x=true\/X.env.scope.names.lookup x=some .local:=by first | exact .inl rfl | exact .inr rfl | assumption) (hf2:X.fn y=true\/X.env.scope.names.lookup y=some .local:=by first | exact .inl rfl | exact .inr rfl | assumption) (hf3:X.fn z=true\/X.env.scope.names.lookup z=some .local:=by first | exact .inl rfl | exact .inr rfl | assumption)
  (ha:(assignEach [.Name x p1,.Name y p2,.Starred (.Name z p3) p4] X.env).map (·.2)=assign (.Name x p1) X.env::(assignEach [.Name y p2,.Starred (.Name z p3) p4] X.env).map (·.2):=by rfl)
  (ha1:(assignEach [.Name y p2,.Starred (.Name z p3) p4] X.env).map (·.2)=assign (.Name y p2) X.env::(assignEach [.Starred (.Name z p3) p4] X.env).map (·.2):=by rfl)
  (ha2:(assignEach [.Starred (.Name z p3) p4] X.env).map (·.2)=[assign (.Name z p3) X.env]:=by rfl)
  (hn:(assignEach [.Name x p1,.Name y p2,.Starred (.Name z p3) p4] X.env).length=3:=by rfl) (hst:(assignEach [.Name x p1,.Name y p2,.Starred (.Name z p3) p4] X.env).findIdx? (·.1)=some 2:=by rfl) :
  GD X (.Tuple [.Name x p1,.Name y p2,.Starred (.Name z p3) p4] k pos) (Gs i j l):=
 PG.imp (yz hc (lX (jC hN hi hx hf) (lX (jC hN hj hy hf2) (zA (jC hN hl hz hf3) ha2) ha1) ha) hn hst) λv σ H Q aG=>by
 obtain⟨env,B,Z,d,env',R,r,e,k⟩:=aG;unfold Gs at e
 split at e
 .rename_i d1 d2 ds;cases e;obtain⟨a,vs,rfl,hq,rr⟩:=r;obtain⟨v0,vr,rfl,r0,v1,vr,rfl,r1,rr⟩:=rr;refine⟨a,v0,v1,vr,rfl,cK R.zh hq,λp hp=>?_⟩;have x2:Ex Z H (upd Z p (.lst vr)) (upd H p (.lst vr)):=Ex.new R.zh hp;refine⟨v0,_,rfl,v1,_,rfl,.ref p,_,rfl,rfl,?_⟩;have s1:aK Z (upd Z p (.lst vr)):=x2.z;exact k _ _ _ x2 ((((R.ext x2).setF i (Rep.mono s1 d1 r0)).setF j (Rep.mono s1 d2 r1)).setF (d:=.lst ds) l ⟨p,vr,rfl,cT.of ax,ar.mono s1 ds rr⟩)
 .cases e
end
section
variable {X:Cx}{rg:Gr}{l:SN}{fa:Fe}{ga:Gr}{pos pos2 p p2:Pos}
def Jc(i:Nat)(f:Fe):Fs:=λenv=>(bf env i).bind λd=>(f env).bind λe=>match d,e with
 | .int m,.int n=>some (.nx (env.set i (.F (.int (m+n)))))
 | _,_=>none
theorem EZ(i:Nat){fe:Fe}(he:PD X .cl e fe)(hN:X.N.Nodup)(hi:X.N[i]?=some x:=by rfl)(hx:Loc X.env.scope x:=by first | exact Or.inl rfl | exact Or.inr rfl)(hf:X.fn x=true\/X.env.scope.names.lookup x=some .local:=by first | exact .inl rfl | exact .inr rfl | assumption) :
  SD X rg (.AugAssign (.Name x px) .Add e pos) (Jc i fe):=by
 refine PS.imp (FR hN hi hx he GB hf) λE σ H aG=>?_;obtain⟨env,B,Z,o,R,e,k⟩:=aG;obtain⟨d1,e1,e⟩:=b_.mp e;obtain⟨d2,e2,e⟩:=b_.mp e;cases d1<;>try cases e
 all_goals (cases d2<;>cases e)
 rename_i m n hh;unfold bf at e1
 split at e1
 .rename_i d' h1;cases e1;obtain⟨y,h2,v,h3,r⟩:=R.sl i _ h1;cases(show v=.int m from r);subst h3;refine⟨_,h2,env,B,Z,_,R,e2,λv Z1 H1 x1 g1=>?_⟩;cases(show v=.int n from g1);exact⟨m,n,rfl,rfl,k _ Z1 H1 (x1.part R.bh) ((R.ext x1).setF i rfl)⟩
 .cases e1
theorem rR:∀{vs:SX}{us:Sr},vs.length=us.length->(∀(i:Nat) v u,vs[i]?=some v->us[i]?=some u->RelV v u)->av vs us
 | [],[],_,_=>.nil
 | [],_::_,h,_=>by simp at h
 | _::_,[],h,_=>by simp at h
 | v::vs,u::us,h,g=>.cons (g 0 v u rfl rfl) (rR (by simpa using h) λi v u h1 h2=>g (i+1) v u (by simpa using h1) (by simpa using h2))
def Ax(n:Nat):SX:=(List.range n).map λ(i:Nat)=>V.int (i:Int)
def ES(n:Nat):SV:=(List.range n).map λ(i:Nat)=>D.int (i:Int)
def Ob(ta:TA):TE:=λσ H Q=>ta σ H λws H1=>∃n:Nat,ws=[.int n]/\n<=1000000/\∀q,H1 q=none->Q (.ref q) (upd H1 q (.lst (Ax n)))
theorem JO(hc:X.calm=true)(MK:Gl X "list")(HE:X.mg "list"=none)(hg:Gl X "range")(hm:X.mg "range"=none)(ha:PA X [l] ta)(hs:starEach [l] X.env=[(false,eval l X.env)]:=by rfl)
  (yk:starEach [.Call (.Name "range" p2) [l] [] pos2] X.env=[(false,eval (.Call (.Name "range" p2) [l] [] pos2) X.env)]:=by rfl):PE X (.Call (.Name "list" p) [.Call (.Name "range" p2) [l] [] pos2] [] pos) (Ob ta):=by
 intro pins s σ H Q I h;refine P9 (gM I MK HE QY ?_ (by decide) (by decide));refine Pe ?_ yk rfl;rw[yk];refine(show wpAny _ _ (spliced ((false,eval (.Call (.Name "range" p2) [l] [] pos2) X.env)::backTo pos [])) _ _ s from QK ?_);refine Call_ (gM I hg hm boot_range (Pe (br (ha pos2 pins s σ H _ I h) λus s1 aG=>?_) hs rfl));obtain⟨ws,H1,I1,r1,n,rfl,hn,q⟩:=aG;obtain⟨u,rfl,t,rfl⟩:=vals1 r1;refine call_range_1 (RM ?_);have hsz:Builtin.Range.rangeSize 0 (n:Int) 1=n:=by rw[rangeSize_one];split<;>lia
 refine call_list_range (n:=n) (I1.ok.hd hc) (IsRange.new ..) (small_one (by decide) (by decide) (by lia) (by lia)) hsz (by lia) λh' tk acc c' hk hS hacc=>?_;have I2:Inv X pins σ H1 {s1 with heap:=s1.heap.push {cls:=.type "range",data:=.fields #[.int 0 s1.toks,.int n t,.int 1 (s1.toks+1)]},toks:=s1.toks+1+1}:=I1.kept λb o e=>e_ _ e;refine⟨.ref _,_,I2.laid (t':=tk) (o:=.lst (Ax n)) hk (h_ _) ⟨by unfold Ax;rw[c_,Pi,OJ];lia,acc.toList,c',?_,by simpa using hS⟩,rfl,q _ I2.fresh⟩;refine rR (by unfold Ax;rw[c_,Pi,OF,hacc.1]) λi v u h1 h2=>?_;rw[Q9]at h2;obtain⟨t',e⟩:=hacc.2 i u h2;unfold Ax at h1;rw[m_]at h1;obtain⟨j,h3,rfl⟩:=Ow.mp h1;obtain⟨h4,h5⟩:=o_.mp h3;rw[List.getElem_range]at h5;subst h5;exact⟨t',by rw[e];congr 1;lia⟩
def Cm:D->SW
 | .int n=>if 0<=n/\n<=1000000 then some (.lst (ES n.toNat))else none
 | _=>none
theorem Jk(bq:X.calm=true)(HE:X.mg "list"=none)(hm:X.mg "range"=none)(ha:PD X ga l fa)(MK:Gl X "list":=by rfl)(hg:Gl X "range":=by rfl)(hs:starEach [l] X.env=[(false,eval l X.env)]:=by rfl)
  (yk:starEach [.Call (.Name "range" p2) [l] [] pos2] X.env=[(false,eval (.Call (.Name "range" p2) [l] [] pos2) X.env)]:=by rfl):PD X .nw (.Call (.Name "list" p) [.Call (.Name "range" p2) [l] [] pos2] [] pos) (bc Cm fa):=
 PE.imp (JO bq MK HE hg hm (bF ha c6 hs) hs yk) λσ H Q aG=>by
  obtain⟨env,B,Z,d,R,e,k⟩:=aG;obtain⟨x,e1,e2⟩:=b_.mp e;cases x<;>try cases e2
  rename_i n;obtain⟨hl,rfl⟩:=ma e2;refine⟨env,B,Z,_,R,e1,λv Z1 H1 x1 g1=>⟨n.toNat,by rw[g1.int];congr 1;congr 1;lia,by lia,λq hq=>?_⟩⟩;refine k _ Z1 _ (x1.trans (Ex.newL x1.zh hq)) ⟨q,_,_,rfl,rfl,x1.h.free hq,ax,x1.zh.free hq,?_⟩;have:=ar.ints (K:=X.K) (H:=Z1) ((List.range n.toNat).map λ(i:Nat)=>(i:Int));rw[OA,OA]at this;exact this
end
def lookI(ks:SR)(xs:List α)(q:Key):Option α:=match ks,xs with
 | k::ks,x::xs=>if k=q then some x else lookI ks xs q
 | _,_=>none
theorem ic:∀(ks:SR)(us:Sr)(q:Key),valueAt (ks.zip us) q=lookI ks us q
 | [],us,q=>by cases us<;>rfl
 | k::ks,[],q=>rfl
 | k::ks,u::us,q=>by
  unfold lookI
  by_cases h:k=q
  .rw[k_ h];simp[valueAt,h]
  .rw[l_ h,<- ic ks us q];simp[valueAt,h]
theorem ar.lookI{K:Fg}{H:Hp}:∀{ks:SR}{ds:SV}{vs:SX}{q:Key}{d:D},ar K H ds vs->Mi.lookI ks ds q=some d->∃v,Mi.lookI ks vs q=some v/\Rep K H d v
 | [],ds,_,_,_,_,h=>by cases ds<;>cases h
 | k::ks,[],_,_,_,_,h=>by cases h
 | k::ks,e::ds,_,q,d,⟨v,r,e1,h1,h2⟩,h=>by
  subst e1;unfold Mi.lookI at h ⊢
  by_cases hk:k=q
  .rw[k_ hk]at h ⊢;cases h;exact⟨v,rfl,h1⟩
  .rw[l_ hk]at h ⊢;exact ar.lookI h2 h
theorem av.lookI:∀{ks:SR}{vs:SX}{us:Sr}{q:Key}{v:V},av vs us->Mi.lookI ks vs q=some v->∃u,Mi.lookI ks us q=some u/\RelV v u
 | [],vs,_,_,_,_,h=>by cases vs<;>cases h
 | k::ks,_,_,_,_,.nil,h=>by cases h
 | k::ks,_,_,q,d,.cons (a:=a) (b:=b) h1 h2,h=>by
  unfold Mi.lookI at h ⊢
  by_cases hk:k=q
  .rw[k_ hk]at h ⊢;cases h;exact⟨_,rfl,h1⟩
  .rw[l_ hk]at h ⊢;exact av.lookI h2 h
theorem d9:∀{ks:SR}{xs:List α}{q:Key},xs.length=ks.length->(Mi.lookI ks xs q=none↔q∉ks)
 | [],xs,q,_=>by cases xs<;>simp[lookI]
 | k::ks,[],q,h=>by simp at h
 | k::ks,x::xs,q,h=>by
  unfold lookI
  by_cases hk:k=q
  .rw[k_ hk];simp[hk]
  .rw[l_ hk,d9 (by simpa using h)];simp[Pw hk]
theorem yC{P P':SF}{w w':SI}{o:Obj}{kvs:List (Key×SC)}(e:hashStr w=hashStr w')(h:o.IsDictOf (aF P w) kvs):o.IsDictOf (aF P' w') kvs:=by
 obtain⟨es,ep,h1,h2,h3,h4,h5⟩:=h;have hk:∀k,GF w k=GF w' k:=λk=>by cases k with | inl i=>rfl | inr x=>exact congrFun e x
 refine⟨es,ep,h1,h2,λx hx=>?_,?_,h5⟩
 .obtain⟨k,a,b⟩:=h3 x hx;exact⟨k,a,b.trans (hk k)⟩
 .clear h5 h2 h3;generalize es.toList=l at h4
  induction h4 with
  | nil=>exact .nil
  | cons a b _ ih=>exact .cons a b ih
section
variable {X:Cx}{rg:Gr}{l r o:SN}{fa fb:Fe}{ga gb:Gr}{pos p:Pos}{k:Nat}{th:Str->Int}
theorem zT{pins σ H s}{a:SM}{ob:Obj}{ks:SR}{vs:SX}(I:Inv X pins σ H s)(hc:H a=some (.ext (nu a ob)))(hx:AN (hashStr X.w) ob a ks vs) :
  ∃us,av vs us/\us.length=ks.length/\s.heap.get? a=some ob/\ob.IsDictOf (aF X.prog X.w) (ks.zip us)/\(a==sysModules)=false:=by
 obtain⟨h1,h2,h3,P,w,us,e,hv,dd⟩:=hx;exact⟨us,hv,by rw[<- av.length hv];exact h3,(show bp X.prog X.w H s.heap a (.ext (nu a ob))from I.hok a _ hc).1,yC e.symm dd,h1⟩
theorem Ef{pins σ H s}{a:SM}{ob:Obj}{ks:SR}{vs:SX}(I:Inv X pins σ H s)(hc:H a=some (.ext (nu a ob)))(hx:AN (hashStr X.w) ob a ks vs) :
  ∃us,av vs us/\us.length=ks.length/\s.heap.DictOf (aF X.prog X.w) a (ks.zip us)/\(a==sysModules)=false:=by
 obtain⟨us,h1,h2,h3,h4,h5⟩:=zT I hc hx;exact⟨us,h1,h2,Heap.dictOf_iff.mpr ⟨ob,h3,h4⟩,h5⟩
theorem oJ(a:SM)(ob:Obj):∀h1 h2:SH,nu a ob h1->(∀o,h1.get? a=some o->h2.get? a=some o)->nu a ob h2:=λ_ _ e k=>k _ e
def FT:D->Option Key
 | .int i=>some (.inl i)
 | .str x=>some (.inr x)
 | _=>none
theorem vH{K:Fg}{Z H H0:Hp}{g:Gr}{d:D}{v:V}{q:Key}(h:Gd K Z H0 H g d v)(e:FT d=some q):v=kV q:=by
 cases d<;>cases e
 .exact h.int
 .exact h.str
open Classical in
noncomputable def IJ(th:Str->Int):D->Option (SR×SV)
 | .ix yb ks ds=>if yb=th then some (ks,ds)else none
 | _=>none
open Classical in
theorem sq(h:IJ th d=some x):d=.ix th x.1 x.2:=by
 cases d<;>try cases h
 unfold IJ at h;obtain⟨rfl,rfl⟩:=ma h
 rfl
open Classical in
theorem Ei(th:Str->Int)(ks:SR)(ds:SV):IJ th (.ix th ks ds)=some (ks,ds):=by show(if th=th then some (ks,ds)else none)=_;rw[k_ rfl]
noncomputable def ze(th:Str->Int)(x y:D):SW:=(IJ th x).bind λm=>(FT y).bind λq=>lookI m.1 m.2 q
def D1(th:Str->Int):R2:=λx y H Q=>∃(a:SM)(ob:Obj)(ks:SR)(vs:SX)(q:Key)(v:V),x=.ref a/\H a=some (.ext (nu a ob))/\AN th ob a ks vs/\y=kV q/\lookI ks vs q=some v/\Q v H
theorem Ci(ho:PE X o td)(hi:PE X i ty)(hs:Fu i):PE X (.Subscript o i pos) (HD (D1 (hashStr X.w)) td ty):=by
 intro pins s σ H Q I h;refine Dw PySem.F.slot_dict_getitem.lookup hs (br (ho pins s σ H _ I h) λu s1 ⟨x,H1,I1,rx,q1⟩=>br (hi pins s1 σ H1 _ I1 q1) λiv s2 aG=>?_);obtain⟨y,H2,I2,ry,a,ob,ks,vs,q,v,ex,hc,hx,ey,hl,q2⟩:=aG;subst ex ey;obtain rfl:u=Value.ref a:=rx;obtain⟨us,hv,h1,dd,h2⟩:=Ef I2 hc hx;obtain⟨w',e1,e2⟩:=av.lookI hv hl;exact⟨dd.typeIs,wpAny_getItem_of (Ao ry) dd.mapOf (by rw[ic];exact e1) ⟨v,H2,I2.tok _,e2,q2⟩⟩
theorem Gf{K:Fg}{th:Str->Int}:cI K .cl (ze th) (D1 th):=λ{Z H x y dx dy d Q} s h1 h2 e kq=>by
 obtain⟨m,e1,e⟩:=b_.mp e;obtain⟨q,e2,e3⟩:=b_.mp e;cases sq e1;rcases h1 with h1 | ⟨_,_,_,_,e,_⟩ | ⟨_,_,_,e,_⟩ | ⟨_,_,_,_,_,e,_⟩
 .obtain⟨a,ob,vs,rfl,hc,hx,rr⟩:=h1;obtain⟨v,e4,e5⟩:=ar.lookI rr e3;exact⟨a,ob,m.1,vs,q,v,rfl,s _ _ hc,hx,vH h2 e2,e4,kq v Z H (Ex.refl s) e5⟩
 .cases e
 .cases e
 .cases e
theorem Ge(hw:th=hashStr X.w)(ha:PD X ga l fa)(hb:PD X gb r fb)(hs:Fu r:=by intro _ _;rfl):PD X .cl (.Subscript l r pos) (ai (ze th) fa fb):=by
 subst hw;exact PE.imp (Ci ha hb hs) λ_ _ _ h=>hJ Gf h
theorem De:PE X (.Dict [] [] pos) (λσ H Q=>∀a ob,H a=none->AN (hashStr X.w) ob a [] []->Q (.ref a) (upd H a (.ext (nu a ob)))):=λpins s σ H Q I hT=>by
 have hf:=I.hok.fresh (h_ s.sz);have hg:=n_ s.heap (o:={cls:=.type "dict",data:=.dict #[]}) rfl;have hx:AN (hashStr X.w) {cls:=.type "dict",data:=.dict #[]} s.sz [] []:=⟨by have:=I.big;simpa using (Rw this),by simp,rfl,X.prog,X.w,[],rfl,.nil,#[],0,⟨rfl,rfl,rfl⟩,rfl,λe he=>by simp at he,.nil,by simp⟩;exact wpAny_Dict_empty ⟨.ref s.sz,_,I.laid (o:=.ext (nu s.sz {cls:=.type "dict",data:=.dict #[]})) (λ_ _ q=>e_ _ q) (h_ _) ⟨hg,⟨_,hg⟩,oJ _ _⟩,rfl,hT _ _ hf hx⟩
def Jd(th:Str->Int)(i:Nat):Fs:=λenv=>some (.nx (env.set i (.O (.I th [] []))))
theorem EW(i:Nat)(hw:th=hashStr X.w)(hN:X.N.Nodup)(hi:X.N[i]?=some x:=by rfl)(hx:Loc X.env.scope x:=by first | exact Or.inl rfl | exact Or.inr rfl)(hs:swapsWith (.Dict [] [] p) (some (.Name x pos')) pos.line X.env=pure false:=by rfl)
  (hf:X.fn x=true\/X.env.scope.names.lookup x=some .local:=by first | exact .inl rfl | exact .inr rfl | assumption):SD X rg (.Assign [.Name x pos'] (.Dict [] [] p) pos) (Jd th i):=PS.imp (qj hN hi hx De hs hf) λE σ H h=>by
 subst hw;obtain⟨env,B,Z,o,R,e,k⟩:=h;cases e;intro a ob ha hx;have x1:Ex Z H Z (upd H a (.ext (nu a ob))):=Ex.newL R.zh ha;refine k _ Z _ (x1.part R.bh) ((R.ext x1).setO i (R.bh.free ha) (R.zh.free ha) ax (show cw X.K Z a (.I _ [] []) _ from⟨ob,[],rfl,hx,rfl⟩) λj es hj hje hja=>?_);obtain⟨y,e4,b,us,e5,e6,_⟩:=R.sl j _ hje;rw[hja]at e4;cases e4;cases e5;rw[ha]at e6;cases e6
def Ji(th:Str->Int)(td ty tx:TE):TE:=λσ H Q=>td σ H λx H1=>∃a ob ks vs,x=.ref a/\H1 a=some (.ext (nu a ob))/\AN th ob a ks vs/\ty σ H1 λy H2=>tx σ H2 λz H3=>∃q:Key,H3 a=some (.ext (nu a ob))/\y=kV q/\ks.length<16000000/\
 (∀v,lookI ks vs q=some v->Q v H3)/\(q∉ks->∀Bv,AN th Bv a (ks++[q]) (vs++[z])->Q z (upd H3 a (.ext (nu a Bv))))
theorem AW:∀{ks:List α}{us:List β}(_:us.length=ks.length)(q:α)(u:β),(ks++[q]).zip (us++[u])=ks.zip us++[(q,u)]:=λ{ks us} h q u=>by
 rw[List.zip_append h.symm];rfl
theorem Dr(ho:PE X o td)(he:PE X e ty)(hf:PE X f tx)(m:M2 X o "setdefault" apos e f bK):PE X (.Call (.Attribute o "setdefault" apos) [e,f] [] bK) (Ji (hashStr X.w) td ty tx):=by
 intro pins s σ H Q I h;refine wpAny_Call_method m.base m.few m.line PySem.F.plainAttrs_dict Rq PySem.F.type_dict_setdefault (br (ho pins s σ H _ I h) λu s1 aG=>?_);obtain⟨x,H1,I1,rx,a,ob,ks,vs,ex,hc1,hx,q1⟩:=aG;subst ex;obtain rfl:u=Value.ref a:=rx;obtain⟨us,hv,h1,h2,h3,wj⟩:=zT I1 hc1 hx;have t1:s1.TypeIs (.ref a) "dict":=by obtain⟨es,ep,e1,_⟩:=h3;exact⟨ob,h2,e1.1⟩
 have t2:∀b,Value.ref a=.ref b->∃ob,s1.heap.get? b=some ob/\ob.dict=none:=λb q=>by
  cases q;obtain⟨es,ep,e1,_⟩:=h3;exact⟨ob,h2,e1.2.1⟩
 refine⟨t1,t2,?_⟩;rw[m.trees];refine QW rfl (Calls.evalArgs_plain (QK (br (he pins s1 σ H1 _ I1 q1) λiv s2 ⟨y,H2,I2,ry,q2⟩=>QK (br (hf pins s2 σ H2 _ I2 q2) λfv s3 aG=>RM ?_))));obtain⟨z,H3,I3,rz,q,hc,ey,hl,q3,q4⟩:=aG;subst ey;obtain⟨us,hv,h1,dd,wj⟩:=Ef I3 hc hx;have hlz:(ks.zip us).length=ks.length:=by rw[Sf,h1];exact Sa _
 refine call_meetsIn Rq dd.typeIs PySem.F.entry_dict_setdefault (PySem.F.args_dict_setdefault_3 _ _ _) (PySem.kt_meets_setdefault (aF X.prog X.w) a (Ao ry) wj fv) ⟨_,dd,by rw[hlz,OJ];lia,λv' tu=>?_,λhn h' dd' hs'=>?_⟩
 .rw[ic]at tu;have hvl:vs.length=ks.length:=by rw[av.length hv];exact h1
  cases e:lookI ks vs q with
  | none=>
   have:=(d9 hvl).mp e;have h0:=(d9 (xs:=us) (q:=q) h1).mpr this;rw[h0]at tu;cases tu
  | some v=>
   obtain⟨w',e1,e2⟩:=av.lookI hv e;rw[tu]at e1;cases e1;exact⟨v,H3,I3.tok _,e2,q3 v e⟩
 .rw[ic]at hn;have hnq:=(d9 h1).mp hn;have e0:((ks.zip us).any λkv=>decide (kv.1=q))=false:=by
   rw[List.any_eq_false];intro kv hkv hq;exact hnq (by rw[<- OD hq];exact(Ro (show(kv.1,kv.2)∈ks.zip us from hkv)).1)
  have e1:stored (ks.zip us) q fv=((ks++[q]).zip (us++[fv])):=by
   unfold stored;rw[l_ (by rw[e0];exact F_),AW h1]
  rw[e1]at dd';obtain⟨Bv,g1,g2⟩:=Heap.dictOf_iff.mp dd';have m8:AN (hashStr X.w) Bv a (ks++[q]) (vs++[z]):=⟨wj,by rw[t_];simp;lia,by rw[t_,t_,av.length hv,h1];rfl,X.prog,X.w,us++[fv],rfl,av.append hv (.cons rz .nil),g2⟩;exact⟨z,upd H3 a (.ext (nu a Bv)),I3.write (by rw[hc];exact True.intro) (.inl rfl) (λb u hb z=>(hs'.2 b hb).trans z) ⟨Bv,g1⟩ ⟨g1,⟨Bv,g1⟩,oJ _ _⟩,rz,q4 hnq Bv m8⟩
open Classical in
noncomputable def GS(th:Str->Int)(i:Nat)(fk fx:Fe):Fs:=λenv=>(fk env).bind λkd=>(fx env).bind λd=>(FT kd).bind λq=>match env[i]? with
 | some (.O (.I yb ks ds))=>if yb=th/\ks.length<16000000/\ds.length=ks.length then some (.nx (env.set i (.O (if q∈ks then .I th ks ds else .I th (ks++[q]) (ds++[d])))))else none
 | _=>none
open Classical in
theorem FG(i:Nat)(hw:th=hashStr X.w)(hk:PD X .cl ke fk)(hx:PD X .cl ve fx)(hN:X.N[i]?=some x:=by rfl)(HJ:wX X.env.scope x:=by first | exact Or.inl rfl | exact Or.inr (Or.inl rfl) | exact Or.inr (Or.inr rfl))
  (hd:(x==("__debug__":Str))=false:=by decide) (iP:(x==("__classdict__":Str))=false:=by decide)
  (h1:attributeBase (.Name x px) "setdefault" X.env (eval (.Name x px) X.env)=eval (.Name x px) X.env:=by rfl) (h2:((backTo bK (starEach [ke,ve] X.env)).all (λx=>!x.1)&&(backToKw bK (keywordEach [] X.env)).all (λx=>x.1.isSome)
   && decide (([ke,ve]:Sw).length+([]:List Keyword).length+(if([]:List Keyword).isEmpty then 0 else 1)<30))=true:=by rfl) (h3:(apos.endLine==bK.line)=true:=by rfl)
  (h4:backTo bK (starEach [ke,ve] X.env)=[(false,eval ke X.env),(false,eval ve X.env)]:=by rfl)
  (hs:swapsWith (.Call (.Attribute (.Name x px) "setdefault" apos) [ke,ve] [] bK) none pos.line X.env=pure false:=by rfl) :
  SD X rg (.Expr (.Call (.Attribute (.Name x px) "setdefault" apos) [ke,ve] [] bK) pos) (GS th i fk fx):=by
 subst hw;refine PS.imp (lg (Dr (eO hN HJ hd iP) hk hx ⟨h1,h2,h3,h4⟩) hs) λE σ H aG=>?_;refine cN λ_ kg=>?_;obtain⟨env,B,Z,o,R,e,kq⟩:=aG;obtain⟨kd,e1,e⟩:=b_.mp e;obtain⟨d,e2,e⟩:=b_.mp e;obtain⟨q,e7,e⟩:=b_.mp e
 split at e
 .rename_i yb ks ds hi;obtain⟨⟨rfl,hlen,GZ⟩,rfl⟩:=ma e;obtain⟨y,e3,c,o,e4,e5,e6,ob,vs,rfl,hx,rr⟩:=R.sl i _ hi;subst e4;refine kg ⟨_,e3,c,ob,ks,vs,rfl,e5,hx,env,B,Z,kd,R,e1,λkv Z1 H1 x1 g1=>⟨env,B,Z1,d,R.ext x1,e2,λv Z2 H2 x2 g2=>?_⟩⟩;clear kg;have R2:=(R.ext x1).ext x2;have x0:=x1.trans x2;refine⟨q,x2.h _ _ (x1.h _ _ e5),vH (show Gd X.K Z1 H H1 .cl kd kv from g1) e7,hlen,λu hu=>?_,λhn Bv m8=>?_⟩
  .have qC:q∈ks:=Qr λz=>by
    rw[(d9 hx.2.2.1).mpr z]at hu;cases hu
   rw[k_ qC]at kq;have he:env.set i (.O (.I (hashStr X.w) ks ds))=env:=by
    refine Q2 λj=>?_
    by_cases hj:i=j
    .subst hj;rw[D_ (o_.mp hi).1,hi]
    .rw[q_ hj]
   rw[he]at kq;exact kq σ Z2 H2 (x0.part R.bh) R2
  .rw[l_ hn]at kq;obtain⟨R3,x3⟩:=R2.wr hi e3 (show cw X.K _ c (.I (hashStr X.w) (ks++[q]) (ds++[d])) _ from⟨Bv,_,rfl,m8,(ar.mono x0.z ds rr).app (ar.one g2)⟩);exact kq σ _ _ ((x0.part R.bh).transB x3) R3
 .cases e
def Nj(a:SM)(ob:Obj)(ks:SR):It:=⟨λi H=>H a=some (.ext (nu a ob))/\i<ks.length,λi H x H'=>H'=H/\∀q,ks[i]?=some q->x=kV q,λi H=>H a=some (.ext (nu a ob))/\ks.length<=i⟩
theorem mO{P:SF}{w:SI}:∀{es:List DictEntry}{kvs:List (Key×SC)},Pairs (aF P w) es kvs->∀{i:Nat}{en:DictEntry},es[i]?=some en->∃kv,kvs[i]?=some kv/\iN kv.1 en.key=true
 | _,_,.nil,i,en,h=>by simp at h
 | _,_,.cons a b r,0,en,h=>by simp at h;subst h;exact⟨_,rfl,a⟩
 | _,_,.cons a b r,i+1,en,h=>by simpa using mO r (i:=i) (by simpa using h)
theorem xc{q:Key}{u:SC}(h:iN q u=true):RelV (kV q) u:=by
 rcases a7 h with ⟨i,t,rfl,rfl⟩ | ⟨x,t,rfl,rfl⟩
 .exact⟨t,rfl⟩
 .exact⟨t,rfl⟩
theorem xv{P:SF}{w:SI}{K:Fg}{tg:SN}{it a:SM}{ob:Obj}{ks:SR}{us:Sr}{es:Array DictEntry}{ep:Nat}(hd:ob.data=.dict es ep)(hp:Pairs (aF P w) es.toList (ks.zip us))(hl:us.length=ks.length) :
  Turn P w K tg (Nj a ob ks) [it] it (λn h=>h.IsKeyIter it a n es.size ep) where
 mem:=by simp
 obj:=λi h st b hb=>by
  have e:b=it:=by simpa using hb
  subst e;obtain⟨o,e,c,d⟩:=st;exact⟨o,e,λv z=>by rw[d]at z;cases z⟩
 keep:=λi h h' st k=>st.at λo e=>k it (by simp) o e
 item:=by
  intro X hP hw hK hc i pins s σ H E I hf st hg;subst hP hw hK;obtain⟨ha,hi⟩:=hg;have h1:s.heap.get? a=some ob:=(show bp X.prog X.w H s.heap a (.ext (nu a ob))from I.hok a _ ha).1;have hsz:es.size=ks.length:=by rw[<- OF,hp.length,Sf,hl];exact Sa _
  obtain⟨f0,f1,f2,f3,f4,f5⟩:=hf it (by simp);refine zJ st h1 hd (by rw[hsz];exact hi) λh' oW sb=>?_;have I1:Inv X pins σ H {s with heap:=h'}:=I.turned (t':=s.toks) (λb o hb e=>(sb.2 b hb).trans e) f0 f1 f3 f4 f5;obtain⟨o,e,c,d⟩:=id oW;obtain⟨kv,e2,e3⟩:=mO hp (i:=i) (en:=es[i]'(by rw[hsz];exact hi)) (by simp[hsz,hi]);have e4:ks[i]?=some kv.1:=(PQ.mp (show(ks.zip us)[i]?=some (kv.1,kv.2)from e2)).1;exact⟨_,rfl,vf (s:={s with heap:=h'}) e c d (by decide) ⟨kV kv.1,H,I1,xc e3,⟨rfl,λq hq=>by rw[e4]at hq;cases hq;rfl⟩,oW,λb hb=>(hf b hb).1⟩⟩
 done:=by
  intro X hP hw hK hc i pins s σ H E I hf st hg;subst hP hw hK;obtain⟨ha,hi⟩:=hg;have h1:s.heap.get? a=some ob:=(show bp X.prog X.w H s.heap a (.ext (nu a ob))from I.hok a _ ha).1;have hsz:es.size=ks.length:=by rw[<- OF,hp.length,Sf,hl];exact Sa _
  obtain⟨f0,f1,f2,f3,f4,f5⟩:=hf it (by simp);exact Cj (I.ok.hd hc) st h1 hd (by rw[hsz];exact hi) λh' eb=>⟨rfl,I.turned (t':=s.toks) (λb o hb e=>eb b o hb e) f0 f1 f3 f4 f5⟩
 self:=λ_ _ _ _ _ st h=>wpAny_pyIter_keyiter st h
def Jz(th:Str->Int)(td:TE):TI:=λσ H R=>td σ H λx H1=>∃(a:SM)(ob:Obj)(ks:SR)(vs:SX),x=.ref a/\H1 a=some (.ext (nu a ob))/\AN th ob a ks vs/\R (Nj a ob ks) H1
theorem CO{l:SN}{tl:TE}(hl:PE X l tl):PI X tg l (Jz (hashStr X.w) tl):=by
 intro pins s σ H R I h;refine br (hl pins s σ H _ I h) λv s1 ⟨x,H1,I1,r1,q1⟩=>?_;obtain⟨a,ob,ks,vs,e,hc,hx,q⟩:=q1;subst e;cases r1;obtain⟨us,hv,h1,h2,⟨es,ep,e1,e2,e3,e4,e5⟩,wj⟩:=zT I1 hc hx;refine yx wj h2 e1 e2 ?_;refine⟨s1.heap.objs.size,[s1.heap.objs.size],_,_,H1,rfl,I1.kept (t':=s1.toks) λb o e=>e_ _ e,xv e2 e4 h1,⟨_,n_ _ rfl,rfl,rfl⟩,λb hb=>?_,q⟩;have e:b=s1.heap.objs.size:=by simpa using hb
 subst e;exact I1.fpOk (h_ _) (I1.hok.fresh (h_ _))
noncomputable def Ku(th:Str->Int)(f:Fe):Fi:=λenv=>(f env).bind λd=>(IJ th d).bind λm=>if KH m.1=true then some (m.1.map kD)else none
theorem GP(hw:th=hashStr X.w)(h:PD X .cl l f):ID X tg l (Ku th f):=by
 subst hw;refine PI.imp (CO h) λσ H R aG=>?_;refine cN λ_ kq=>?_;obtain⟨env,B,Z,ds,Rr,e,k⟩:=aG;obtain⟨d,e1,e2⟩:=b_.mp e;obtain⟨m,e3,e4⟩:=b_.mp e2;obtain⟨hk,rfl⟩:=ma e4;cases sq e3;refine kq (⟨env,B,Z,_,Rr,e1,λv Z1 H1 x1 g1=>?_⟩);clear kq;obtain⟨a,ob,vs,rfl,hc,hx,rr⟩:=g1;refine⟨a,ob,m.1,vs,rfl,x1.zh _ _ hc,hx,k _ Z1 H1 x1 λZ' H' s1 s2 i=>?_⟩;have ha:=(s1.trans s2) _ _ hc;rw[c_];refine⟨λhi=>⟨⟨ha,hi⟩,λx H'' y=>?_⟩,λhi=>⟨ha,hi⟩⟩;obtain⟨rfl,y⟩:=y;have e5:=y m.1[i] (by simp[hi]);refine⟨Z',kD m.1[i],Ex.refl s2,by simp[hi],?_⟩;rw[e5];have:=I_.mp hk m.1[i] (OL hi);cases hh:m.1[i]with
 | inl j=>rfl
 | inr z=>rw[hh]at this;exact⟨rfl,this⟩
end
end Mi
namespace St
open PySem PySem.Spec PyProof.Rows PyProof.V
theorem ck:Slot "set_iterator" "__next__" "set_iterator.__next__":=
 .of (owner:="set_iterator") (n:="__next__") (by rw[typeLookup_type,builtinLookup_eq_fast];kernel_rfl) (by decide +kernel) (by decide +kernel) (by decide +kernel)
  (by first | exact .inl (by decide +kernel) | exact .inr (by decide +kernel)) (by rw[isSubtype_type];kernel_rfl)
theorem jB:Slot "set_iterator" "__iter__" "set_iterator.__iter__":=
 .of (owner:="set_iterator") (n:="__iter__") (by rw[typeLookup_type,builtinLookup_eq_fast];kernel_rfl) (by decide +kernel) (by decide +kernel) (by decide +kernel)
  (by first | exact .inl (by decide +kernel) | exact .inr (by decide +kernel)) (by rw[isSubtype_type];kernel_rfl)
theorem iC:entryFor table "set_iterator.__next__"=some Builtin.«set_iterator.__next__»:=entryFor_of_tree (by kernel_rfl)
theorem nq:entryFor table "set_iterator.__iter__"=some Builtin.«dict_keyiterator.__iter__»:=entryFor_alias (id':="dict_keyiterator.__iter__") (by kernel_rfl) rfl (by decide +kernel) (by kernel_rfl)
theorem mN:entryFor table "set.__iter__"=some Builtin.«frozenset.__iter__»:=entryFor_alias (id':="frozenset.__iter__") (by kernel_rfl) rfl (by decide +kernel) (by kernel_rfl)
theorem sE:Manifest.owners.lookup (String.ofList ['r','o','t','a','r','e','t','i','_','t','e','s'].reverse)=some Manifest.sig_set_iterator:=by kernel_rfl
theorem jq(a:SC):argsOk "set_iterator.__next__" ⟨[a],[]⟩:=by
 unfold argsOk;rw[signature?_of (id:="set_iterator.__next__") (n:=['_','_','t','x','e','n','_','_']) (o:=['r','o','t','a','r','e','t','i','_','t','e','s']) (by kernel_rfl) sE];kernel_rfl
theorem o6(a:SC):argsOk "set_iterator.__iter__" ⟨[a],[]⟩:=by
 unfold argsOk;rw[signature?_of (id:="set_iterator.__iter__") (n:=['_','_','r','e','t','i','_','_']) (o:=['r','o','t','a','r','e','t','i','_','t','e','s']) (by kernel_rfl) sE];kernel_rfl
def gy(w:SI)(a:SM)(ep:Nat)(es:Array (Int×SC)):Array (Int×SC):=if w.params.followText "set-order"=true then pickOrder (w.params.setOrder a ep) es else es
theorem lW{α:Type}:∀{l:List α}{i:Nat}(h:i<l.length),(l[i]::l.eraseIdx i).Perm l
 | x::l,0,h=>List.Perm.refl _
 | x::l,i+1,h=>by
  have h':i<l.length:=by simpa using h
  exact(List.Perm.swap ..).trans ((lW h').cons x)
theorem oa{α:Type}(f:Nat->Nat):∀(n k:Nat)(left:List α)(out:Array α),left.length=n->(pickOrder.go f n k left out).toList.Perm (out.toList++left)
 | 0,k,left,out,h=>by
  rw[List.length_eq_zero_iff.mp h,O9];exact List.Perm.refl _
 | n+1,k,left,out,h=>by
  have hi:f k%left.length<left.length:=RA _ (by lia);unfold pickOrder.go;rw[f_ hi];refine(oa f n (k+1) _ _ (by rw[List.length_eraseIdx_of_lt hi];lia)).trans ?_;rw[Array.toList_push,Po];exact List.Perm.append_left _ (lW hi)
theorem g9(w:SI)(a:SM)(ep:Nat)(es:Array (Int×SC)):(gy w a ep es).toList.Perm es.toList:=by
 unfold gy
 split
 .exact oa _ _ _ _ _ (by simp)
 .exact List.Perm.refl _
structure HK(w:World)(a:Addr)(o:Obj)(es:Array (Int×Value))(ep:Nat)(t:SetTable):Prop where
 ex:o.ExactSet
 dat:o.data=.set es ep t
 ok:Ok t (es.toList.map (·.1))
 led:t.led=!w.params.followText "set-order"
 pl:t.plain=true
section
variable {prog:SF}{w:SI}{A:SG}{E:Sj}{s:SE}{a it:SM}{o:Obj}{es:Array (Int×SC)}{ep:Nat}{t:SetTable}
theorem HK.fits(W:HK w a o es ep t):t.fits es.size=true:=fits_of W.ok (by have:=W.ok.len;simpa using this)
def slotAt(t:SetTable)(i:Nat):Nat:=match i with
 | 0=>0
 | j+1=>t.place.getD j 0+1
def xE(h:SH)(it a:SM)(n ep:Nat)(w:SI)(t:SetTable)(i:Nat):Prop:=h.get? it=some {cls:=.type "set_iterator",data:=.fields #[.int (if w.params.followText "set-order"=true then 0 else slotAt t i:Nat) 0,.int i 0,.ref a,.int n 0,.int ep 0]}
theorem BK(W:HK w a o es ep t)(ho:s.heap.get? a=some o)(hQ:Q (.ref s.heap.objs.size) {s with heap:=s.heap.push {cls:=.type "set_iterator",data:=.fields #[.int 0 0,.int 0 0,.ref a,.int es.size 0,.int ep 0]}}):wpAny (model prog w) A (pyIter (.ref a)) Q E s:=by
 have hT:s.TypeIs (.ref a) "set":=⟨o,ho,W.ex.1⟩;refine RS hT F.slot_set_iter (OE F.slot_set_iter hT mN ?_ (F.args_set_iter_1 _));unfold Builtin.«frozenset.__iter__» Builtin.Frozenset.slot0 Builtin.Frozenset.sizeOf;refine a_ (a_ (d_ ?_));show wpAny _ _ (pure a) _ _ s;refine d_ ?_;unfold setEntries setDrawn setEpoch;refine a_ (a_ (a_ (OH ho W.dat W.fits (d_ (d_ ?_)))));refine a_ (a_ (OH ho W.dat W.fits ?_));unfold setsByText;refine a_ (a_ (Pd (d_ ?_)));refine d_ ?_;have e0:∀b:Bool,(b&&(!t.plain&&decide (es.size>1)))=false:=λb=>by rw[W.pl];cases b<;>rfl
 show wpAny _ _ (if(!(w.params.followText "set-order")&&(!t.plain&&decide (es.size>1)))=true then _ else _) _ _ s;rw[e0,l_ F_];refine a_ (d_ (a_ (a_ (OH ho W.dat W.fits (d_ (a_ (OI ?_)))))));exact d_ ⟨_,rfl,"set_iterator",_,⟨_,n_ _ rfl,rfl⟩,ck.lookup,hQ⟩
theorem mJ(W:HK w a o es ep t)(i:Nat)(hi:i<=es.size):SetTable.below t.place (slotAt t i)=i:=by
 have hz:t.place.size=es.size:=by have:=W.ok.len;simpa using this
 obtain⟨h1,h2,h3⟩:=mM t.place (slotAt t i) W.ok.up;generalize SetTable.below t.place (slotAt t i)=r at *;have hl:t.place.toList.length=es.size:=by simpa using hz
 cases i with
 | zero=>
  cases r with
  | zero=>rfl
  | succ r=>exact absurd (h2 t.place.toList[0] (PP.mpr ⟨0,by lia,rfl⟩)) (QH _)
 | succ j=>
  have hj:j<t.place.toList.length:=by lia
  have e:slotAt t (j+1)=t.place.toList[j]+1:=by
   show t.place.getD j 0+1=_;have:j<t.place.size:=by lia
   simp[Array.getD,this]
  rw[e]at h2 h3;rcases RL r (j+1)with hlt | rfl | hgt
  .have:=h3 t.place.toList[j] (Qp.mpr ⟨j-r,by lia,by congr 1;lia⟩)
   lia
  .rfl
  .have K5:j+1<t.place.toList.length:=by lia
   have a1:=h2 t.place.toList[j+1] (PP.mpr ⟨j+1,by lia,rfl⟩);have a2:=OQ.mp W.ok.up j (j+1) hj K5 (by lia)
   lia
theorem Ca(W:HK w a o es ep t)(hi:xE s.heap it a es.size ep w t i)(ho:s.heap.get? a=some o)(hlt:i<es.size)
  (hQ:∀h' v,(∃k,(gy w a ep es)[i]?=some (k,v))->xE h' it a es.size ep w t (i+1)->Heap.SameBut it s.heap h'->Q (some v) {s with heap:=h'}):wpAny (model prog w) A (pyNext (.ref it)) Q E s:=by
 have hT:s.TypeIs (.ref it) "set_iterator":=⟨_,hi,rfl⟩;unfold pyNext;refine a_ (QD (OP (name:="__next__") hT ck (OE ck hT iC ?_ (jq _))));refine a_ (d_ (a_ (RG hi rfl ?_)));show wpAny _ _ (setEntries a >>= _) _ _ s;unfold setEntries;refine a_ (a_ (OH ho W.dat W.fits (d_ ?_)));show wpAny _ _ (if(((es.size:Int) != (es.size:Int))=true)then _ else _) _ _ s;rw[l_ (by simp)];have hz:t.place.size=es.size:=by have:=W.ok.len;simpa using this
 have e0:∀b:Bool,(b&&(!t.plain&&decide (es.size>1)))=false:=λb=>by rw[W.pl];cases b<;>rfl
 have go:∀(x:SC)(nx:Nat),(∃k,(gy w a ep es)[i]?=some (k,x))->(nx=if w.params.followText "set-order"=true then 0 else slotAt t (i+1))->
   ∀{R:Fin->SE->Prop}{E':Sj},(∀h',xE h' it a es.size ep w t (i+1)->Heap.SameBut it s.heap h'->R (.done (.ret x)) {s with heap:=h'})->
   wpAny (model prog w) A.in1 (do setField (.ref it) 0 (rawInt nx);setField (.ref it) 1 (rawInt ((i:Int)+1));ret x) R E' s:=λx nx hx hn R E' hR=>by
  refine a_ (Pb hi (by simp) λg1 e1 s1=>?_);refine a_ (Pb e1 (by simp) λg2 e2 s2=>?_);refine d_ (hR g2 ?_ (s1.trans s2));unfold xE;rw[<- hn];simpa [rawInt]using e2
 unfold setNext setsByText;refine a_ (a_ (OH ho W.dat W.fits (a_ (a_ (Pd (d_ ?_))))));have ye:(gy w a ep es).size=es.size:=by have:=(g9 w a ep es).length_eq;simpa using this
 have EG:(gy w a ep es)[i]?=some ((gy w a ep es)[i]'(by rw[ye];exact hlt)):=by simp[ye,hlt]
 by_cases hb:w.params.followText "set-order"=true
 .show wpAny _ _ (if w.params.followText "set-order"=true then _ else _) _ _ s;rw[k_ hb];dsimp only;rw[l_ (by simp)];unfold setWalk setsByText;refine a_ (a_ (OH ho W.dat W.fits (a_ (a_ (Pd (d_ ?_))))));show wpAny _ _ (if w.params.followText "set-order"=true then _ else _) _ _ s;rw[k_ hb];refine a_ (Pd (d_ (d_ ?_)));show wpAny _ _ (match Option.map (_:Int×SC->SC×Nat) (pickOrder (w.params.setOrder a ep) es)[i]? with | some (x,next)=>_ | none=>_) _ _ s;have e1:pickOrder (w.params.setOrder a ep) es=gy w a ep es:=by unfold gy;rw[k_ hb]
  rw[e1,EG];exact go _ _ ⟨_,EG⟩ (by simp[hb]) λh' q1 q2=>⟨_,rfl,d_ (hQ h' _ ⟨_,EG⟩ q1 q2)⟩
 .show wpAny _ _ (if w.params.followText "set-order"=true then _ else _) _ _ s;rw[l_ hb];show wpAny _ _ (if(!t.plain&&decide (es.size>1))=true then _ else _) _ _ s;rw[l_ (by rw[W.pl];exact F_)];show wpAny _ _ ((if(!t.led&&!es.isEmpty)=true then unsupported _ else pure ()) >>= _) _ _ s;rw[l_ (by rw[W.led];simp[hb])];refine a_ (d_ (d_ ?_));show wpAny _ _ (match (match es[SetTable.below t.place (((if w.params.followText "set-order"=true then 0 else slotAt t i:Nat):Int)).toNat]?,t.place[SetTable.below t.place (((if w.params.followText "set-order"=true then 0 else slotAt t i:Nat):Int)).toNat]? with | some (_,x),some j=>some (x,j+1) | _,_=>none)with | some (x,next)=>_ | none=>_) _ _ s;have e1:gy w a ep es=es:=by unfold gy;rw[l_ hb]
  have e2:t.place[i]?=some (t.place[i]'(by rw[hz];exact hlt)):=by simp[hz,hlt]
  have hei:es[i]?=some ((gy w a ep es)[i]'(by rw[ye];exact hlt)):=by rw[<- EG,e1]
  rw[l_ hb,OC,mJ W i (Pl hlt),e2,hei];refine go _ _ ⟨_,EG⟩ ?_ λh' q1 q2=>⟨_,rfl,d_ (hQ h' _ ⟨_,EG⟩ q1 q2)⟩;rw[l_ hb];show _=t.place.getD i 0+1;simp[Array.getD,hz,hlt]
theorem GE(hh:A.handled=none)(W:HK w a o es ep t)(hi:xE s.heap it a es.size ep w t es.size)(ho:s.heap.get? a=some o)
  (hQ:∀h',Heap.ExtBut it s.heap h'->Q none {s with heap:=h'}):wpAny (model prog w) A (pyNext (.ref it)) Q E s:=by
 have hT:s.TypeIs (.ref it) "set_iterator":=⟨_,hi,rfl⟩;unfold pyNext;refine a_ (QD (OP (name:="__next__") hT ck (OE ck hT iC ?_ (jq _))));refine a_ (d_ (a_ (RG hi rfl ?_)));show wpAny _ _ (setEntries a >>= _) _ _ s;unfold setEntries;refine a_ (a_ (OH ho W.dat W.fits (d_ ?_)));show wpAny _ _ (if(((es.size:Int) != (es.size:Int))=true)then _ else _) _ _ s;rw[l_ (by simp)];have hz:t.place.size=es.size:=by have:=W.ok.len;simpa using this
 have fin:∀{R:Fin->SE->Prop}{E':Sj},(∀h' e ob,Heap.ExtBut it s.heap h'->h'.get? e=some ob->ob.cls=.type "StopIteration"->E' (.ref e) {s with heap:=h'})->
   wpAny (model prog w) A.in1 (do setField (.ref it) 2 .none;raiseNew (<- newExc (.type "StopIteration") [])) R E' s:=λhE=>by
  refine a_ (Q3 hi rfl (by simp) ?_);show wpAny _ _ (newExc (.type "StopIteration") [] >>= _) _ _ _;simp only[newExc,newTuple];refine a_ (a_ (OI (a_ (Rh (by first | rfl | (simp only[firstArgMember];rfl)) (OI ?_ (by size_fits)))) (by size_fits)));simp only[raiseNew];refine a_ (wpAny_handled ?_);rw[show A.in1.handled=none from hh];exact a_ (d_ (wpAny_throw (hE _ _ _ (((OT ..).extBut.push _).push _) (n_ _ rfl) rfl)))
 have out:∀h' e ob,Heap.ExtBut it s.heap h'->h'.get? e=some ob->ob.cls=.type "StopIteration"->wpAny (model prog w) A (do if <- isInstance (.ref e) (.type "StopIteration")then pure none else throw (.ref e)) Q E {s with heap:=h'}:=λh' e ob q1 q2 q3=>
  a_ (Ra ⟨ob,q2,q3⟩ isSubtype_stop (d_ (hQ _ q1)))
 have ye:(gy w a ep es).size=es.size:=by have:=(g9 w a ep es).length_eq;simpa using this
 unfold setNext setsByText;refine a_ (a_ (OH ho W.dat W.fits (a_ (a_ (Pd (d_ ?_))))))
 by_cases hb:w.params.followText "set-order"=true
 .show wpAny _ _ (if w.params.followText "set-order"=true then _ else _) _ _ s;rw[k_ hb];dsimp only;rw[l_ (by simp)];unfold setWalk setsByText;refine a_ (a_ (OH ho W.dat W.fits (a_ (a_ (Pd (d_ ?_))))));show wpAny _ _ (if w.params.followText "set-order"=true then _ else _) _ _ s;rw[k_ hb];refine a_ (Pd (d_ (d_ ?_)));show wpAny _ _ (match Option.map (_:Int×SC->SC×Nat) (pickOrder (w.params.setOrder a ep) es)[es.size]? with | some (x,next)=>_ | none=>_) _ _ s;have e1:pickOrder (w.params.setOrder a ep) es=gy w a ep es:=by unfold gy;rw[k_ hb]
  rw[e1,Px (by lia)];exact fin out
 .show wpAny _ _ (if w.params.followText "set-order"=true then _ else _) _ _ s;rw[l_ hb];show wpAny _ _ (if(!t.plain&&decide (es.size>1))=true then _ else _) _ _ s;rw[l_ (by rw[W.pl];exact F_)];show wpAny _ _ ((if(!t.led&&!es.isEmpty)=true then unsupported _ else pure ()) >>= _) _ _ s;rw[l_ (by rw[W.led];simp[hb])];refine a_ (d_ (d_ ?_));show wpAny _ _ (match (match es[SetTable.below t.place (((if w.params.followText "set-order"=true then 0 else slotAt t es.size:Nat):Int)).toNat]?,t.place[SetTable.below t.place (((if w.params.followText "set-order"=true then 0 else slotAt t es.size:Nat):Int)).toNat]? with | some (_,x),some j=>some (x,j+1) | _,_=>none)with | some (x,next)=>_ | none=>_) _ _ s;rw[l_ hb,OC,mJ W es.size (h_ _),Px (h_ _)];exact fin out
theorem Ap(hT:s.TypeIs (.ref a) "set"){Q:Bool->SE->Prop}(h:Q false s):wpAny (model prog w) A (Builtin.List.listLengthHint (.ref a)) Q E s:=by
 unfold Builtin.List.listLengthHint;refine a_ (Qb hT PySem.F.slot_set_len.lookup ?_);generalize hid:("set.__len__":String)=id0
 wp_delta
 rw[show splitId id0=some ("set","__len__")from by subst hid;decide +kernel];subst hid;refine a_ (Ra (T:="set") (b:=true) hT (by rw[isSubtype_type];kernel_rfl) ?_);refine wpAny_ite_split (λKL=>absurd KL (by decide)) (λ_=>?_);refine wpAny_ite_split (λ_=>?_) (λKL=>absurd (by decide +kernel) KL);refine a_ (wpAny_typeOf hT ?_);exact d_ h
theorem Bx(W:HK w a o es ep t):PySem.W.KdlSrc prog w "set" a a es.size (λi v=>∃k,(gy w a ep es)[i]?=some (k,v)) (λh=>h.get? a=some o) where
 type:=λ_ h1=>⟨o,h1,W.ex.1⟩
 there:=λ_ h1=>⟨r_ h1,r_ h1⟩
 keep:=λ_ _ h1 hk=>hk a (.inl rfl) o h1
 notList:=by decide
 notTuple:=by decide
 hint:=λ_ _ _ _ h1 hq=>Ap ⟨o,h1,W.ex.1⟩ hq
 iter:=λA s hh h1=>by
  have hne:a≠s.heap.objs.size:=y_ (r_ h1);refine⟨_,λi h=>xE h s.heap.objs.size a es.size ep w t i/\h.get? a=some o,λ_ _ hq=>BK W h1 hq,⟨λb hb=>by simp at hb;simp[hb],λ_ _ _ st hk=>⟨hk _ (by simp) _ st.1,hk a (by simp) o st.2⟩,λi s' Q E hi st hQ=>?_,λs' Q E st hQ=>?_,λ_ s' _ _ st hQ=>?_⟩,⟨?_,e_ _ h1⟩⟩
  .exact Ca W st.1 st.2 hi λh' v hv Hk hs'=>hQ v h' s'.toks hv ⟨Hk,hs'.extBut _ _ hne st.2⟩ λb o hb e=>hs'.extBut b o (λh=>hb (by simp[h])) e
  .exact GE hh W st.1 st.2 λh' G1=>hQ h' s'.toks λb o hb e=>G1 b o (λh=>hb (by simp[h])) e
  .have ty:s'.TypeIs (.ref s.heap.objs.size) "set_iterator":=⟨_,st.1,rfl⟩;refine RS ty jB (OE jB ty nq ?_ (o6 _));show wpAny _ _ (ret (.ref s.heap.objs.size)) _ _ s';exact d_ ⟨_,rfl,"set_iterator",_,ty,ck.lookup,hQ⟩
  .show(s.heap.push _).get? _=some _;rw[n_ _ rfl];simp[slotAt]
end
end St
namespace Mi
open PySem PySem.Spec PyProof.Rows L2
open PySem.W (KasT kas_sort)
theorem x9{α β:Type}(f:α->β){o l:List β}(h:o.Perm l):∀{zs:List α},zs.map f=l->∃ys:List α,ys.Perm zs/\ys.map f=o:=by
 induction h with
 | nil=>intro zs e;exact⟨[],by rw[Ru.mp e],rfl⟩
 | cons x _ ih=>
  intro zs e;cases zs with
  | nil=>cases e
  | cons z zs=>
   rw[G_]at e;obtain⟨e1,e2⟩:=List.cons.inj e;obtain⟨ys,p,q⟩:=ih e2;exact⟨z::ys,p.cons z,by rw[G_,q,e1]⟩
 | swap x y l=>
  intro zs e
  match zs,e with
  | a::b::zs,e=>
   rw[G_,G_]at e;obtain⟨e1,e2⟩:=List.cons.inj e;obtain⟨e3,e4⟩:=List.cons.inj e2;exact⟨b::a::zs,List.Perm.swap a b zs,by rw[G_,G_,e1,e3,e4]⟩
 | trans _ _ ih1 ih2=>
  intro zs e;obtain⟨ys,p,q⟩:=ih2 e;obtain⟨xs,p2,q2⟩:=ih1 q;exact⟨xs,p2.trans p,q2⟩
theorem oH{α:Type}{n:Nat}{P:α->Prop}{lt lt':Nat->Nat->Bool}(h:∀i j,i<n->j<n->lt i j=lt' i j):∀{t:KasT α},pL n P t->eZ lt t=eZ lt' t
 | .ret _,_=>rfl
 | .ask i j k,⟨g,q⟩=>by
  show eZ lt (k (lt i j))=eZ lt' (k (lt' i j));rw[h i j g.1 g.2];exact oH h (q _)
def gL(p:SA):Int:=p.1*64+p.2
def okP(p:SA):Prop:=0<=p.1/\p.1<64/\0<=p.2/\p.2<64
theorem rT{p q:SA}(hp:okP p)(hq:okP q):dP (kk p) (kk q)=some (decide (gL p<gL q)):=by
 obtain⟨a,b⟩:=p;obtain⟨c,d⟩:=q;show(if(Sum.inl a:L2.Key)=.inl c then(if(Sum.inl b:L2.Key)=.inl d then some false else some (decide (b<d)))else some (decide (a<c)))=some (decide (a*64+b<c*64+d));simp only[okP]at hp hq
 by_cases e:a=c
 .subst e;rw[k_ rfl]
  by_cases e:b=d
  .subst e;rw[k_ rfl,Ot (by lia)]
  .rw[l_ (λz=>e (Sum.inl.inj z))];congr 1
   by_cases g:b<d
   .rw[v_ g,v_ (by lia)]
   .rw[Ot g,Ot (by lia)]
 .rw[l_ (λz=>e (Sum.inl.inj z))];congr 1
  by_cases g:a<c
  .rw[v_ g,v_ (by lia)]
  .rw[Ot g,Ot (by lia)]
theorem Ea{α:Type}(f:α->Int):∀{l1 l2:List α},l1.Perm l2->l1.Pairwise (λx y=>f x<=f y)->l2.Pairwise (λx y=>f x<f y)->l1=l2
 | [],l2,p,_,_=>p.nil_eq
 | x::l1,[],p,_,_=>by have:=p.length_eq;simp at this
 | x::l1,y::l2,p,h1,h2=>by
  obtain⟨a1,a2⟩:=ON.mp h1;obtain⟨b1,b2⟩:=ON.mp h2;have hx:x∈y::l2:=p.mem_iff.mp (j_ ..);have hy:y∈x::l1:=p.mem_iff.mpr (j_ ..);have e:x=y:=by
   rcases s_.mp hx with e | hx
   .exact e
   .rcases s_.mp hy with e | hy
    .exact e.symm
    .have:=a1 y hy;have:=b1 x hx
     lia
  subst e;rw[Ea f (List.Perm.cons_inv p) a2 b2]
theorem mv{α:Type}(L:List α)(z:α):(List.range L.length).map (λi=>L.getD i z)=L:=by
 apply List.ext_getElem
 .simp
 .intro i h1 h2;simp[g_,h2]
theorem nT(L L':So)(hp:L'.Perm L)(h8:∀p∈L,okP p)(up:L.Pairwise λp q=>gL p<gL q):(cY (L'.map kk)).map (λi=>L'.getD i (0,0))=L/\uC (L'.map kk)=true:=by
 have K6:∀p∈L',okP p:=λp h=>h8 p (hp.mem_iff.mp h);have lx:∀i j,i<(L'.map kk).length->j<(L'.map kk).length->Jq (L'.map kk) i j=kl (λi=>gL (L'.getD i (0,0))) i j:=λi j hi hj=>by
  rw[c_]at hi hj;unfold Jq kl;have e:∀i,(hi:i<L'.length)->(L'.map kk).getD i []=kk (L'.getD i (0,0))/\L'.getD i (0,0)∈L':=λi hi=>by
   rw[g_,g_,m_,f_ hi];exact⟨rfl,OL hi⟩
  rw[(e i hi).1,(e j hj).1,rT (K6 _ (e i hi).2) (K6 _ (e j hj).2)];rfl
 refine⟨?_,?_⟩
 .by_cases h2:(L'.map kk).length<2
  .unfold cY;rw[k_ h2,c_,mv];rw[c_]at h2
   match L',L,hp,h2 with
   | [],L,hp,_=>exact hp.nil_eq
   | [x],L,hp,_=>exact(List.perm_singleton.mp hp.symm).symm
  .have hd:∀i j,i<j->j<(L'.map kk).length->gL (L'.getD i (0,0))≠gL (L'.getD j (0,0)):=λi j yg hj=>by
    rw[c_]at hj;have nd:(L'.map gL).Nodup:=((hp.map gL).nodup_iff).mpr (by rw[List.Nodup,O6];exact up.imp λh e=>by lia);intro z;rw[g_,g_,f_ hj,f_ (by lia:i<L'.length)]at z;have:=(List.getElem_inj (xs:=L'.map gL) (i:=i) (j:=j) (h₀:=by simp;lia) (h₁:=by simp;lia) nd).mp (by simpa using z)
    lia
   obtain⟨s1,s2⟩:=Dl (key:=λi=>gL (L'.getD i (0,0))) (n:=(L'.map kk).length) (by lia) hd;unfold cY;rw[l_ h2,oH lx (k0 (by lia))];refine Ea gL ?_ (by rw[O6];exact s2) up;have:=s1.map λi=>L'.getD i (0,0);rw[c_,mv]at this;rw[c_];exact this.trans hp
 .unfold uC;rw[A_,I_,I_];refine⟨λx hx=>?_,λx hx=>I_.mpr λy hy=>?_⟩
  .obtain⟨p,_,rfl⟩:=x_.mp hx;rfl
  .obtain⟨p,h1,rfl⟩:=x_.mp hx;obtain⟨q,h2,rfl⟩:=x_.mp hy;rw[rT (K6 p h1) (K6 q h2)];rfl
def oC:So:=(List.range 4096).map λn=>(((n/64:Nat):Int),((n%64:Nat):Int))
theorem zI:oC.Pairwise λp q=>gL p<gL q:=by
 unfold oC;rw[O6];refine List.pairwise_lt_range.imp λ{a b} h=>?_;unfold gL;dsimp only
 lia
theorem xW{p:SA}:p∈oC↔okP p:=by
 unfold oC okP;rw[x_];constructor
 .rintro⟨n,h,rfl⟩;have:=Ov.mp h;dsimp only
  lia
 .rintro⟨h1,h2,h3,h4⟩;refine⟨(p.1*64+p.2).toNat,Ov.mpr (by lia),?_⟩;obtain⟨a,b⟩:=p;simp only at *;rw[Qe]
  lia
def nv(ps:So):So:=oC.filter λp=>decide (p∈ps)
theorem tI(ps:So):(nv ps).Pairwise λp q=>gL p<gL q:=zI.filter _
theorem fO{ps:So}(h:∀p∈ps,okP p){p:SA}:p∈nv ps↔p∈ps:=by
 unfold nv;rw[OU,w_,xW];exact⟨λz=>z.2,λz=>⟨h p z,z⟩⟩
theorem gX{ps:So}(h:∀p∈ps,okP p)(nd:ps.Nodup):ps.Perm (nv ps):=
 (Qk nd ((tI ps).imp λz e=>by rw[e]at z;exact absurd z (Int.lt_irrefl _))).mpr λp=>(fO h).symm
theorem xO{ps:So}(h:∀p∈ps,okP p)(nd:ps.Nodup):ps.length<=4096:=by
 rw[(gX h nd).length_eq];refine C_ (OY _ _) ?_;unfold oC;rw[c_,Pi];exact h_ _
section
variable {elt:SN}{gens:Sq}{scope:SL}{pos:Pos}{d:Nat}{tg iter:SN}{ifs:Sw}{it acc:SC}{env:Env}
theorem uB(h:gens[d]?=some ⟨tg,iter,ifs,0⟩)(h2:gens[d+1]?=none):compTurn (.SetComp elt gens scope pos) d it acc env=uU (.SetComp elt gens scope pos) tg iter ifs d it acc env (do let v <- eval elt env;standAt elt.pos;let _ <- call (.builtin "set.add") [acc,v]):=by
 unfold compTurn;simp only[h,h2]
 rfl
theorem tS(h:gens[d]?=some ⟨tg,iter,ifs,0⟩)(h2:gens[d+1]?=some ⟨tm,bP,kj,0⟩):compTurn (.SetComp elt gens scope pos) d it acc env=v9 (.SetComp elt gens scope pos) tg iter bP ifs d it acc env:=by
 unfold compTurn;simp only[h,h2]
 rfl
theorem Lv{P:SF}{w:SI}:A8 P w (.SetComp elt gens scope pos):=⟨λh=>h,λh=>h⟩
end
def yy(w:SI):Bool:=!w.params.followText "set-order"
def fG(w:SI)(a:SM)(zs:List (SA×SM))(h:SH):Prop:=tF a (zs.map (·.1)) (zs.map (·.2)) h/\St.Fl a (yy w) h
theorem mK(w:SI)(a:SM)(zs:List (SA×SM)):∀h1 h2:SH,fG w a zs h1->(∀o,h1.get? a=some o->h2.get? a=some o)->fG w a zs h2:=λh1 h2 ⟨x,o,es,ep,t,e,r⟩ k=>⟨ux _ _ _ h1 h2 x k,o,es,ep,t,k o e,r⟩
abbrev qW(K:Fg)(w:SI)(a:SM):Qa:=λ_ Z H pre=>∃ps zs,kO pre=some ps/\(∀p∈ps,okP p)/\zs.map (·.1)=qJ ps/\H a=some (.ext (fG w a zs))/\∀x∈zs,cH K Z x.2 [.int x.1.1,.int x.1.2]
theorem D'{K:Fg}{w:SI}{a:SM}:DG a (qW K w a):=⟨λ⟨_,_,_,_,_,h,_⟩ z=>(by rw[z]at h;cases h),λx ⟨ps,zs,h1,h2,h3,h4,h5⟩=>⟨ps,zs,h1,h2,h3,x.h _ _ h4,λy hy=>cK x.z (h5 y hy)⟩⟩
section
variable {X:Cx}{a:SM}{elt:SN}{fe:Fe}
def oN(f:Fe):SS:=λenv=>(f env).bind λd=>match d with | .tup [.int m,.int n]=>if 0<=m/\m<64/\0<=n/\n<64 then some [.tup [.int m,.int n]]else none | _=>none
theorem xU(hu:X.A.units+1<cLine)(hx:∀e s,¬X.xe e s)(h:PD X .cl elt fe):xP X (qW X.K X.w a) a (LM X (do let v <- eval elt X.env;standAt elt.pos;let _ <- call (.builtin "set.add") [.ref a,v])) (oN fe):=by
 intro pins s σ H B Z env pre xs P E A e hl hP;obtain⟨d,e1,e2⟩:=b_.mp e
 split at e2
 .rename_i m n;obtain⟨hmn,rfl⟩:=ma e2;obtain⟨ps,zs,hps,hok,nM,hv,rr⟩:=A.ac;refine a_ (OX (h pins s σ H _ A.I ⟨env,B,Z,_,A.R,e1,λv Z1 H1 x1 g1=>(show ∃Z1,Ex Z H Z1 H1/\Rep X.K Z1 (.tup [.int m,.int n]) v from⟨Z1,x1,g1⟩)⟩) (λu s1 aG=>?_) λe s z=>(hx e s z).elim);obtain⟨v,H1,I1,r1,Z1,x1,g1⟩:=aG;obtain⟨b,us,rfl,q,r2⟩:=g1;cases ar.intsV (bs:=[m,n]) r2;cases(show u=Value.ref b from r1);have hne:H a≠none:=by rw[hv];simp
  have hv1:=x1.h _ _ hv;have hz1:=x1.fr a hne A.hz;have R1:=A.R.ext x1;have NQ:∀x∈zs,cH X.K Z1 x.2 [.int x.1.1,.int x.1.2]:=λx hx=>cK x1.z (rr x hx);obtain⟨hS,hF⟩:fG X.w a zs s1.heap:=(show bp X.prog X.w H1 s1.heap a (.ext (fG X.w a zs))from I1.hok a _ hv1).1;rw[lh (by simp),pG]at hS;have hnd:(zs.map (·.1)).Nodup:=(show bp X.prog X.w H1 s1.heap a (.ext (fG X.w a zs))from I1.hok a _ hv1).1.1.choose_spec.choose_spec.choose_spec.choose_spec.2.2.2.2.2.2.2;have hlen:zs.length<=4096:=by
   have:=xO (ps:=zs.map (·.1)) (λp hp=>by rw[nM]at hp;exact hok p ((jd _ _).mp hp)) hnd;simpa using this
  have gh:(tupleKind (aF X.prog X.w)).is s1.heap (kk (m,n)) b:=zQ I1 (cK x1.zh q);refine a_ (Pf (a_ ?_));refine St.pA (by rw[Around.in1_units];exact hu) hS (λx hx=>?_) gh (by rw[c_];lia) λh' tk hsb hS' hF'=>?_
  .obtain⟨y,hy,rfl⟩:=x_.mp hx;exact zQ I1 (cK x1.zh (NQ y hy))
  .rw[show(kk (m,n),b)=kx ((m,n),b)from rfl,<- CZ]at hS';have NR:fG X.w a (nH zs ((m,n),b)) h':=⟨by rw[lh (by simp),pG];exact hS',hF' _ (St.zi (ps:=[m,n]) gh) hF⟩;have he:∃u,h'.get? a=some u:=by obtain⟨_,o,_,_,_,e,_⟩:=NR;exact⟨o,e⟩
   have I2:=I1.write (t':=tk) (o:=.ext (fG X.w a (nH zs ((m,n),b)))) (by rw[hv1];exact True.intro) (.inl rfl) (λb u hb z=>(hsb.2 b hb).trans z) he ⟨NR,he,mK _ _ _⟩;refine d_ (hP _ σ _ Z1 ⟨I2,R1.other A.hb hz1 A.nO,A.nO,A.hb,hz1,ps++[(m,n)],nH zs ((m,n),b),qT m n hps,λp hp=>?_,?_,ax,λx hx=>?_⟩ ?_)
   .rcases Oz.mp hp with z | z
    .exact hok p z
    .rw[u_.mp z];exact hmn
   .have:=r9 [((m,n),b)] zs;show([((m,n),b)].foldl nH zs).map (·.1)=_;rw[this,nM];unfold qJ;rw[List.foldl_append];rfl
   .have:x∈zs\/x∈[((m,n),b)]:=rV hx;rcases this with h | h
    .exact NQ x h
    .rw[u_.mp h];exact q
   .exact⟨dZ R1.bh A.hb,x1.z,dZ R1.zh hz1,λb hb e=>x1.fr b (lV A.R.bh hb) e,x1.nf⟩
 .cases e2
end
abbrev uA(X:Cx)(a:SM)(elt:SN)(gens:Sq)(scope:SL)(pos:Pos)(d:Nat)(tg:SN)(ifs:Sw)(t:Ft)(c:Fb)(k:SS):Prop:=Kd X (qW X.K X.w a) a (.SetComp elt gens scope pos) d tg ifs t c k
section
variable {X:Cx}{a:SM}{elt:SN}{gens:Sq}{scope:SL}{pos:Pos}{d:Nat}{tg iter tm bP:SN}{ifs kj:Sw}{t t':Ft}{c c':Fb}{k:SS}{fe:Fe}{fi:Fi}{is:Sy}
theorem xA(hu:X.A.units+1<cLine)(hx:∀e s,¬X.xe e s)(hg:GD X tg t)(A9:Bk X ifs c)(he:PD X .cl elt fe)(h:gens[d]?=some ⟨tg,iter,ifs,0⟩:=by rfl)(h2:gens[d+1]?=none:=by rfl):uA X a elt gens scope pos d tg ifs t c (oN fe):=
 ⟨hg,A9,_,xU hu hx he,λ_=>vX (uB h h2)⟩
theorem xK(hx:∀e s,¬X.xe e s)(bq:X.calm=true)(hg:GD X tg t)(A9:Bk X ifs c)(hi:ID X tm bP fi)(ht:km is t')(b:uA X a elt gens scope pos (d+1) tm kj t' c' k)
  (h:gens[d]?=some ⟨tg,iter,ifs,0⟩:=by rfl) (h2:gens[d+1]?=some ⟨tm,bP,kj,0⟩:=by rfl) (hs:∀x,foldedSetIterable bP X.env x=pure x:=by intro _;rfl):uA X a elt gens scope pos d tg ifs t c (ee fi is t' c' k):=by
 obtain⟨Bd,mY,Ba⟩:=b.ex;exact⟨hg,A9,_,rq Lv D' hx bq h2 hi b.g ht b.ts mY Ba,λ_=>vo (tS h h2) hs⟩
end
theorem Cd{prog:SF}{w:SI}{A:SG}{E:Sj}{s:SE}{Q:Sj}(h:Q (.ref s.sz) {s with heap:=s.heap.push {cls:=.type "set",dict:=none,data:=.set #[] 0 (.fresh 0 0 (yy w))}}):wpAny (model prog w) A (newSet (.type "set")) Q E s:=by
 unfold newSet setsByText;refine a_ (a_ (Pd (d_ ?_)));dsimp only;simp only[newObj];exact a_ (wpAny_alloc (d_ h))
section
variable {X:Cx}{elt:SN}{rest:Sq}{scope:SL}{pos:Pos}{tg iter:SN}{ifs:Sw}{t:Ft}{c:Fb}{k:SS}{fi:Fi}{is caps:Sy}{cl:Sn}{Nc own:Su}
theorem tT(ht:km is t)(bq:X.calm=true)(g0:fN (λx=>X.env.cells.lookup x) scope.names []=some cl)(bJ:scope.kind=.function)(hnc:∀y∈scope.names,y.2≠.cell)
  (hN:Nc.map some=own.map some++caps.map (λj=>X.N[j]?)) (eT:iz X scope caps=true)
  (hb:∀C s H ex pn a,uA (du X scope cl Nc C s H ex pn) a elt (⟨tg,iter,ifs,0⟩::rest) scope pos 0 tg ifs t c k)
  {pins:Sk} {σ:L2.St} {s2:SE} {H2 B Z2:Hp} {env:En} {ds xs:SV} {E:Sj} {RR:SC->SM->Result->SE->Prop} {it:SM} {fp:Sv} {tn:Nat->SH->Prop} {J:It}
  (I2:Inv X pins σ H2 s2) (R2:Rl X.K B Z2 H2 env σ) (T:Turn X.prog X.w X.K tg J fp it tn) (Bc:tn 0 s2.heap) (qF:∀b∈fp,bR X pins H2 b) (wk:Walk X.K Z2 ds J) (hu:dE is (cW own.length caps env)=true)
  (Bb:iT t c k (cW own.length caps env) ds=some xs) (hl:xs.length<=16000000)
  (MC:∀(a C:SM)(H' Z':Hp)(s':SE)(ps:So)(zs:List (SA×SM)) m,Inv X pins σ H' s'->s'.heap.Ns C m->bR X pins H' C->Ex Z2 H2 Z' H'->H2 a=none->kO xs=some ps->(∀p∈ps,okP p)->zs.map (·.1)=qJ ps->H' a=some (.ext (fG X.w a zs))->Z' a=none->(∀x∈zs,cH X.K Z' x.2 [.int x.1.1,.int x.1.2])->RR (.ref a) C (.ok .next) s') :
  wpAny (model X.prog X.w) X.A (newSet (.type "set")) (λacc s₃=>wpAny (model X.prog X.w) X.A (newFunctionEnv scope X.env.globals cl [] X.env.qual none .none (some X.env)) (λG7 s₄=>
   codeAny (model X.prog X.w) X.A (.compStart (.SetComp elt (⟨tg,iter,ifs,0⟩::rest) scope pos) 0 (.ref it) acc {G7 with scope:=relabel scope X.env}) (RR acc G7.locals) s₄) E s₃) E s2:=by
 refine Cd ?_;have hf:H2 s2.sz=none:=I2.hok.fresh (h_ _);have I3:Inv X pins σ (upd H2 s2.sz (.ext (fG X.w s2.sz []))) {s2 with heap:=s2.heap.push {cls:=.type "set",dict:=none,data:=.set #[] 0 (.fresh 0 0 (yy X.w))}}:=
  I2.laid (λb u e=>e_ _ e) (h_ _) (show bp X.prog X.w _ _ _ (.ext (fG X.w s2.sz []))from⟨⟨(lh (P:=X.prog) (w:=X.w) rfl).mpr (St.yI (yy X.w) (n_ _ rfl)),_,_,_,_,n_ _ rfl,rfl,rfl,rfl⟩,⟨_,n_ _ rfl⟩,mK _ _ _⟩)
 generalize yk:({s2 with heap:=s2.heap.push {cls:=.type "set",dict:=none,data:=.set #[] 0 (.fresh 0 0 (yy X.w))}}:SE)=s3 at I3 ⊢;have Ke:∀b o,s2.heap.get? b=some o->s3.heap.get? b=some o:=λb o e=>by rw[<- yk];exact e_ _ e
 have Kf:s3.sz=s2.sz+1:=by rw[<- yk];exact RE _ _
 have hfl:∀b∈fp,b<s2.sz:=λb hb=>let ⟨o,e,_⟩:=T.obj _ _ Bc b hb;r_ e;have Kg:∀b∈fp,bR X pins (upd H2 s2.sz (.ext (fG X.w s2.sz []))) b:=λb hb=>⟨by rw[aH (y_ (hfl b hb))];exact(qF b hb).1,(qF b hb).2⟩;refine Ri hnc (by intro y hy;simp at hy) (λh1 ya hsb=>?_) bJ;have Kh:∀b o,s3.heap.get? b=some o->h1.get? b=some o:=λb o e=>hsb.extBut b o (y_ (r_ e)) (e_ _ e);have I4:=qP (tk:=s3.toks+([]:List (Str×SC)).length) I3 g0 bJ hnc Kg (λb hb=>by rw[Kf];exact Pp (hfl b hb)) hN eT ya Kh;generalize hXc:du X scope cl Nc s3.sz s3 (upd H2 s2.sz (.ext (fG X.w s2.sz []))) fp (X.pn++pins)=Xc at I4;have bb:uA Xc s2.sz elt (⟨tg,iter,ifs,0⟩::rest) scope pos 0 tg ifs t c k:=by rw[<- hXc];exact hb _ _ _ _ _ _
 obtain⟨Bd,mY,Ba⟩:=bb.ex;have eP:Xc.prog=X.prog:=by rw[<- hXc];rfl
 have eW:Xc.w=X.w:=by rw[<- hXc];rfl
 have eK:Xc.K=X.K:=by rw[<- hXc];rfl
 have eA:Xc.A=X.A:=by rw[<- hXc];rfl
 have eE:Xc.env=compEnvC scope cl s3.sz X.env:=by rw[<- hXc];rfl
 have hx:∀e s,¬Xc.xe e s:=λe s z=>by rw[<- hXc]at z;exact z
 have Bn:Xc.calm=true:=by rw[<- hXc];exact bq
 have T':Turn Xc.prog Xc.w Xc.K tg J fp it tn:=by rw[eP,eW,eK];exact T
 have A4:Ac Xc (qW Xc.K Xc.w s2.sz) [] s2.sz H2 Z2 (upd H2 s2.sz (.ext (fG X.w s2.sz []))) (cW own.length caps env) (kQ own.length caps σ) [] {s3 with heap:=h1,toks:=s3.toks+([]:List (Str×SC)).length}:=
  ⟨I4,by rw[eK];exact R2.cap _ _ (dW hf) (dZ R2.zh (R2.zh.free hf)),je _ _ _,hf,R2.zh.free hf,[],[],rfl,λ_ h=>by simp at h,rfl,by rw[eW];exact ax,λ_ h=>by simp at h⟩
 have MD:∀b∈fp,bR Xc [] (upd H2 s2.sz (.ext (fG X.w s2.sz []))) b:=λb hb=>by
  obtain⟨f1,f2,f3,f4,f5,f6⟩:=Kg b hb;have mem:=fm g0 (λp hp=>by cases hp);rw[<- hXc];refine⟨f1,?_,fo I3 f2 f3,.inl hb,λx c h=>f5 x c (mem (x,c) (OG h)),λp hp=>f6 p (by simpa [du]using hp)⟩;show b≠s3.sz;rw[Kf];exact y_ (Pp (hfl b hb))
 have Ki:tn 0 ({s3 with heap:=h1,toks:=s3.toks+([]:List (Str×SC)).length}:SE).heap:=T.keep _ _ _ Bc λb _ o e=>Kh b o (Ke b o e);have go:=jZ Lv D' hx Bn T' bb.g ht bb.ts mY (Ba it) A4 MD Ki (by rw[eK];exact wk) hu Bb (by simpa using hl) λs' σ' H' Z' A' x' fr'=>by
  obtain⟨ps,zs,hps,hokp,nM,hv,rr⟩:=A'.ac;rw[eW]at hv;have base:=A'.I.base;obtain⟨mC,Kj,_⟩:=A'.I.loc;have hok:=A'.I.hok;have hos:=A'.I.os;have free:=A'.I.free;rw[eE]at Kj free;rw[eP,eW]at hok;rw[eK]at rr;have u1:Un (sY X.stack) fp H2 (upd H2 s2.sz (.ext (fG X.w s2.sz []))) s2.heap s3.heap:=Un.laid Ke (h_ _) hf;have u2:Un (sY X.stack) fp (upd H2 s2.sz (.ext (fG X.w s2.sz []))) H' s3.heap s'.heap:=by rw[<- hXc]at base;exact base
  have G8:s'.os=s2.os:=by rw[<- hXc]at hos;exact hos.trans (by rw[<- yk];rfl)
  have I':Inv X pins σ H' s':=I2.call' G8 (u1.trans u2) hok A'.I.bare λb hb=>⟨(qF b hb).2.2.2.1,(qF b hb).2.1,(qF b hb).2.2.2.2.1,(qF b hb).2.2.2.2.2⟩;exact MC s2.sz s3.sz H' Z' s' ps zs mC I' Kj (I3.fpOk (h_ _) free) x' hf (by simpa using hps) hokp nM hv A'.hz rr
 rw[eP,eW,eA,eE]at go;exact pY Lv rfl go (T.self _ 0 _ _ _ Ki go)
def Oe(X:Cx)(fi:Fi)(is:Sy)(t:Ft)(c:Fb)(k:SS)(n:Nat)(caps:Sy):TE:=λσ H Q=>∃env B Z ds xs ps,Rl X.K B Z H env σ/\fi env=some ds/\dE is (cW n caps env)=true/\iT t c k (cW n caps env) ds=some xs/\xs.length<=16000000/\kO xs=some ps/\
 ∀a Z' H' (zs:List (SA×SM)),Ex Z H Z' H'->(∀p∈ps,okP p)->zs.map (·.1)=qJ ps->H' a=some (.ext (fG X.w a zs))->(∀x∈zs,cH X.K Z' x.2 [.int x.1.1,.int x.1.2])->Q (.ref a) H'
theorem Gn(ht:km is t)(bq:X.calm=true)(hi:ID X tg iter fi)(g0:fN (λx=>X.env.cells.lookup x) scope.names []=some cl)(hN:Nc.map some=own.map some++caps.map (λj=>X.N[j]?))
  (hb:∀C s H ex pn a,uA (du X scope cl Nc C s H ex pn) a elt (⟨tg,iter,ifs,0⟩::rest) scope pos 0 tg ifs t c k)
  (eT:iz X scope caps=true) (bJ:scope.kind=.function) (hnc:∀y∈scope.names,y.2≠.cell) (G9:∀x∈scope.names,x.2=.local->scope.names.lookup x.1=some .local)
  (hs:∀x,foldedSetIterable iter X.env x=pure x) :
  PE X (.SetComp elt (⟨tg,iter,ifs,0⟩::rest) scope pos) (Oe X fi is t c k own.length caps):=by
 intro pins s σ H Q I hT;obtain⟨env,B,Z,ds,xs,ps,R,e1,hu,Bb,hl,hps,kk⟩:=hT;rw[arm_eval_SetComp];refine Qz rfl hs (fU g0) bJ G9 ?_;refine br (hi pins s σ H (λJ H1=>∃Z1,Ex Z H Z1 H1/\Walk X.K Z1 ds J) I ⟨env,B,Z,ds,R,e1,λJ Z1 H1 x1 wk=>⟨Z1,x1,wk⟩⟩) λx s1 q1=>br q1 λJX s2 aG=>?_;obtain⟨it,fp,tn,J,H2,hit,I2,T,Bc,qF,Z2,x2,wk⟩:=aG;subst hit;refine tT ht bq g0 bJ hnc hN eT hb I2 (R.ext x2) T Bc qF wk hu Bb hl λa C H' Z' s' ps' zs m I' ns fpC x' hf hps' hok nM hv hz rr=>?_;refine⟨m,ns,λh' hs'=>?_⟩;obtain⟨f1,f2,f3,f4,f5,f6⟩:=fpC;rw[hps]at hps';cases hps';exact⟨.ref a,H',I'.turned (λb o hb e=>hs'.extBut b o hb e) f1 f2.symm.symm f4 f5 f6,rfl,kk a Z' H' zs (x2.trans x') hok nM hv rr⟩
end
theorem FO{c:Prop}[Decidable c]{o:Option α}{d:α}(h:(if c then o else none)=some d):c/\o=some d:=by
 by_cases hc:c
 .rw[k_ hc]at h;exact⟨hc,h⟩
 .rw[l_ hc]at h;cases h
def Gp(K:Fg)(w:SI):SX->Hp->VK->Prop:=λxs H Q=>∃(a:SM)(zs:List (SA×SM)),xs=[.ref a]/\H a=some (.ext (fG w a zs))/\(∀x∈zs,cH K H x.2 [.int x.1.1,.int x.1.2])/\(∀x∈zs,okP x.1)/\zs.length<64/\
 ∀q (ws:List (SA×SM)),H q=none->ws.map (·.1)=nv (zs.map (·.1))->(∀x∈ws,x∈zs)->Q (.ref q) (upd H q (.lst (ws.map λx=>V.ref x.2)))
theorem yQ{K:Fg}{H:Hp}:∀(ws:List (SA×SM)),(∀x∈ws,cH K H x.2 [.int x.1.1,.int x.1.2])->rb K H (ws.map λx=>V.ref x.2) ((ws.map (·.1)).map kk)
 | [],_=>trivial
 | x::ws,h=>⟨⟨x.2,rfl,h x (j_ ..)⟩,yQ ws λy hy=>h y (i_ _ hy)⟩
theorem pB:∀(ws:List (SA×SM)),av (ws.map λx=>V.ref x.2) (ws.map λx=>Value.ref x.2)
 | []=>.nil
 | _::ws=>.cons rfl (pB ws)
theorem uo{X:Cx}(hc:X.calm=true):dq X (.builtin "sorted") (Gp X.K X.w):=by
 intro pins s σ H xs us Q I rs h;obtain⟨a,zs,rfl,ha,hq,hok,Bu,q⟩:=h;obtain⟨u,rfl,rx⟩:=vals1 rs;cases rx;obtain⟨⟨o,es,ep,t,h1,h2,h3,h4,h5,h6,h7,h8⟩,o',es',JQ,t',g1,g2,g3,g4⟩:=(show bp X.prog X.w H s.heap a (.ext (fG X.w a zs))from I.hok a _ ha).1;rw[h1]at g1;cases g1;rw[h3]at g2;cases g2;have W:St.HK X.w a o es ep t:=⟨h2,h3,h5,g3,g4⟩;rw[pG]at h4;have hz:es.size=zs.length:=by have:=h4.length_eq;simpa using this
 obtain⟨K7,p1,p2⟩:=x9 F7 ((St.g9 X.w a ep es).trans h4) (zs:=zs) rfl;have l0:=p1.length_eq;refine Qq QB plain_sorted entry_sorted (args_sorted1 _) ?_;unfold Builtin.«sorted»;refine a_ (m:=checkCount "sorted" 1 1 _) (d_ (a_ (PySem.W.kdu_collect (A:=X.A.in1) (St.Bx W) (I.ok.hd hc) h1 (by rw[hz,OJ];lia) λh' tk acc hk hacc=>?_)));have e3:acc.toList=K7.map λx=>Value.ref x.2:=by
  have e4:(K7.map λx=>Value.ref x.2)=(St.gy X.w a ep es).toList.map (·.2):=by rw[<- p2,OA];rfl
  rw[e4];refine Q2 λj=>?_;rw[Q9,m_,Q9]
  by_cases hj:j<es.size
  .have K5:j<acc.size:=by rw[hacc.1];exact hj
   obtain⟨k,h1⟩:=hacc.2 j _ (O5 K5);rw[h1,O5 K5];rfl
  .have ye:(St.gy X.w a ep es).size=es.size:=by have:=(St.g9 X.w a ep es).length_eq;simpa using this
   rw[Px (by rw[hacc.1];lia),Px (by lia)];rfl
 rw[e3];have Mf:∀x∈K7,x∈zs:=λx hx=>p1.mem_iff.mp hx;have ht:cE s.heap (K7.map λx=>Value.ref x.2) ((K7.map (·.1)).map kk):=(yQ K7 λx hx=>hq x (Mf x hx)).heap I (pB K7);have K4:cE (h'.push {cls:=.type "list",data:=.seq (K7.map λx=>Value.ref x.2).toArray}) (K7.map λx=>Value.ref x.2) ((K7.map (·.1)).map kk):=ht.keeps λb o hb _=>e_ _ (hk b o hb);have ML:∀p∈zs.map (·.1),okP p:=λp hp=>by obtain⟨x,hx,rfl⟩:=x_.mp hp;exact hok x hx
 obtain⟨o1,o2⟩:=nT (nv (zs.map (·.1))) (K7.map (·.1)) ((p1.map (·.1)).trans (gX ML h8)) (λp hp=>ML p ((fO ML).mp hp)) (tI _);refine a_ (QA ?_ (by rw[c_,OJ];lia));have ho:(h'.push {cls:=.type "list",data:=.seq (K7.map λx=>Value.ref x.2).toArray}).get? h'.objs.size=some (seqObj "list" (K7.map λx=>Value.ref x.2).toArray 0):=n_ _ rfl;refine a_ (K_ (OE slot_list_sort ⟨_,ho,rfl⟩ entry_list_sort (kA (s:={s with heap:=h'.push {cls:=.type "list",data:=.seq (K7.map λx=>Value.ref x.2).toArray},toks:=tk}) ho K4 o2 (by rw[c_];lia) ⟨_,rfl,d_ ⟨_,rfl,?_⟩⟩) (args_list_sort _)));obtain⟨e,he⟩:=sortedHeap_at (out:=((cY ((K7.map (·.1)).map kk)).map λi=>(K7.map λx=>Value.ref x.2).getD i .none).toArray) ho;have qC:∀i∈cY ((K7.map (·.1)).map kk),i<K7.length:=λi hi=>by have:=kW i hi;simpa using this
 have v2:=j5 (pB K7) (is:=cY ((K7.map (·.1)).map kk)) λi hi=>by have:=qC i hi;simpa using this
 have I1:Inv X pins σ H {s with heap:=h',toks:=tk}:=I.kept hk;have ew:((cY ((K7.map (·.1)).map kk)).map λi=>(K7.map λx=>V.ref x.2).getD i .non)=((cY ((K7.map (·.1)).map kk)).map λi=>K7.getD i ((0,0),0)).map λx=>V.ref x.2:=by
  rw[show ∀l:Sy,(l.map λi=>K7.getD i ((0,0),0)).map (λx=>V.ref x.2)=l.map λi=>V.ref (K7.getD i ((0,0),0)).2 from λl=>by rw[OA];rfl];refine P3 λi hi=>?_;have hi':=qC i hi;show(K7.map λx=>V.ref x.2).getD i .non=V.ref (K7.getD i ((0,0),0)).2;rw[g_,g_,m_,f_ hi'];rfl
 rw[ew]at v2;have hlen:((cY ((K7.map (·.1)).map kk)).map λi=>K7.getD i ((0,0),0)).length<=64:=by rw[c_,sr,c_,c_];lia
 refine⟨.ref h'.objs.size,_,I1.laid (t':=tk) (o:=.lst (((cY ((K7.map (·.1)).map kk)).map λi=>K7.getD i ((0,0),0)).map λx=>V.ref x.2)) (λb o z=>?_) (h_ _) ⟨by rw[c_,OJ];lia,_,e,v2,by simpa using he⟩,rfl,q _ _ I1.fresh ?_ λx hx=>?_⟩
 .have hb:b<h'.objs.size:=r_ z;rw[sortedHeap_old (y_ hb) (by rw[size_push'];lia)];exact e_ _ z
 .rw[<- o1,show ∀l:Sy,(l.map λi=>K7.getD i ((0,0),0)).map (·.1)=l.map λi=>(K7.getD i ((0,0),0)).1 from λl=>by rw[OA];rfl];refine P3 λi hi=>?_;have hi':=qC i hi;show(K7.getD i ((0,0),0)).1=(K7.map (·.1)).getD i (0,0);rw[g_,g_,m_,f_ hi'];rfl
 .obtain⟨i,hi,rfl⟩:=x_.mp hx;have hi':=qC i hi;rw[g_,f_ hi'];exact Mf _ (OL hi')
def Fm(p:SA):D:=.tup [.int p.1,.int p.2]
def uc(fi:Fi)(is:Sy)(t:Ft)(c:Fb)(k:SS)(n:Nat)(caps:Sy):Fe:=λenv=>(fi env).bind λds=>if dE is (cW n caps env)=true then(iT t c k (cW n caps env) ds).bind λxs=>if xs.length<=16000000 then(kO xs).bind λps=>if(qJ ps).length<64 then some (.lst ((nv (qJ ps)).map Fm))else none else none else none
theorem vI{K:Fg}{Z:Hp}:∀(ws:List (SA×SM)),(∀x∈ws,cH K Z x.2 [.int x.1.1,.int x.1.2])->ar K Z ((ws.map (·.1)).map Fm) (ws.map λx=>V.ref x.2)
 | [],_=>rfl
 | x::ws,h=>⟨_,_,rfl,⟨x.2,_,rfl,h x (j_ ..),⟨_,_,rfl,rfl,_,_,rfl,rfl,rfl⟩⟩,vI ws λy hy=>h y (i_ _ hy)⟩
section
variable {X:Cx}{elt:SN}{rest:Sq}{scope:SL}{pos p pos':Pos}{tg iter:SN}{ifs:Sw}{t:Ft}{c:Fb}{k:SS}{fi:Fi}{is caps:Sy}{cl:Sn}{Nc own:Su}
theorem BM(hm:X.mg "sorted"=none)(ht:km is t)(bq:X.calm=true)(hi:ID X tg iter fi)(g0:fN (λx=>X.env.cells.lookup x) scope.names []=some cl)(hN:Nc.map some=own.map some++caps.map (λj=>X.N[j]?))
  (hb:∀C s H ex pn a,uA (du X scope cl Nc C s H ex pn) a elt (⟨tg,iter,ifs,0⟩::rest) scope pos' 0 tg ifs t c k)
  (eT:iz X scope caps=true:=by rfl) (bJ:scope.kind=.function:=by rfl) (hnc:∀y∈scope.names,y.2≠.cell:=by decide +kernel) (G9:∀x∈scope.names,x.2=.local->scope.names.lookup x.1=some .local:=by decide +kernel)
  (hs:∀x,foldedSetIterable iter X.env x=pure x:=by intro _;rfl) (hg:Gl X "sorted":=by rfl)
  (he:starEach [.SetComp elt (⟨tg,iter,ifs,0⟩::rest) scope pos'] X.env=[(false,eval (.SetComp elt (⟨tg,iter,ifs,0⟩::rest) scope pos') X.env)]:=by rfl) :
  PD X .nw (.Call (.Name "sorted" p) [.SetComp elt (⟨tg,iter,ifs,0⟩::rest) scope pos'] [] pos) (uc fi is t c k own.length caps):=
 PE.imp (jj (uo bq) hg hm QC (bF (Gn ht bq hi g0 hN hb eT bJ hnc G9 hs) c6 he) (by decide) (by decide) he rfl) λσ H Q aG=>by
 refine cN λ_ kq=>?_;obtain⟨env,B,Z,d,R,e,kk⟩:=aG;obtain⟨ds,e1,e⟩:=b_.mp e;obtain⟨hu,e⟩:=FO e;obtain⟨xs,e2,e⟩:=b_.mp e;obtain⟨hl,e⟩:=FO e;obtain⟨ps,e3,e⟩:=b_.mp e;obtain⟨Bu,e⟩:=FO e;cases e;refine kq ⟨env,B,Z,ds,xs,ps,R,e1,hu,e2,hl,e3,λa Z' H' zs x1 hok nM hv rr=>?_⟩;clear kq;have hzl:zs.length<64:=by have:=OZ List.length nM;rw[c_]at this;lia
 refine⟨a,zs,rfl,hv,λx hx=>cK x1.zh (rr x hx),λx hx=>hok _ ((jd _ _).mp (by rw[<- nM];exact Pv hx)),hzl,λq ws hq hws qC=>?_⟩;refine kk _ Z' _ (x1.trans (Ex.newL x1.zh hq)) ⟨q,_,_,rfl,rfl,x1.h.free hq,ax,x1.zh.free hq,?_⟩;have:=vI (K:=X.K) (Z:=Z') ws λx hx=>rr x (qC x hx);rw[hws,nM]at this;exact this
end
end Mi
namespace K30
open PySem Mi
abbrev aj:Fe:=λenv=>bf env 0
abbrev ah:Fe:=λenv=>bf env 1
abbrev aw:Fe:=λenv=>bf env 2
abbrev au:Fe:=λenv=>bf env 3
abbrev aQ:Fe:=λenv=>bf env 4
abbrev cX:Fe:=λenv=>bf env 5
abbrev bw:Fe:=λenv=>bf env 6
abbrev jv:Fe:=λenv=>bf env 7
abbrev ko:Fe:=λenv=>bf env 8
abbrev fu:Fe:=λenv=>bf env 9
abbrev bS:Fe:=λenv=>bf env 10
abbrev l8:Fe:=λenv=>bf env 11
abbrev cG:Fe:=λenv=>bf env 12
abbrev y7:Fe:=λenv=>bf env 13
noncomputable section
variable [Th]
def d6:D:=(.int 10)
def kH :Fs:=(aD (setF 2 (ai mulI (ai addI (ai addI (ai modI aj (ai powI (fC (.int 10)) (fC (.int 60)))) (ai mulI (fC (.int 7919)) ah)) SZ) (fC (.int 27182818284590452353602874713527)))) (aD (setF 2 (ai modI aw (fC (.int 170141183460469231731687303715884105727)))) (bt (ai fdivI (ai modI (ai powI (ai addI (ai powI aw (fC (.int 5))) (ai mulI (fC (.int 48271)) ah)) S1) (fC (.int 162259276829213363391578010288127))) (fC (.int 7))))))
def m__law_stir:=bM (kH ) 3
def dY:Fs:=(gu (AC (fB (ai ltI aj (ai powI (fC (.int 10)) (fC (.int 18))))) (fB (ai cy au SY))) (gE 2 (ai modI (λenv=>((aa aj (aa aQ fNil)) env).bind m__law_stir) (ai ay ah aQ))) (aD (gE 2 (ai modI au (ai ay ah aQ))) (setF 3 (ai fdivI au (ai ay ah aQ)))))
def pP:Fs:=(aD (setO 2 (bN fNil)) (aD (setF 3 aj) (aD (dD (dM (bc bY ah)) (bZ 4) dY) (tL 2))))
def m__law_drawn:=bM pP 5
def sC:Fs:=(aD (GQ [1,2,3,4,5,6,7] (λenv=>((aa aj (aa (bN (aa S2 (aa S2 (aa S2 (aa S2 (aa S2 (aa S2 (aa S1 fNil)))))))) fNil)) env).bind m__law_drawn)) (aD (setF 8 (ai ay (bN (aa (aP (aa (ai addI SZ aw) (aa (ai addI SZ au) fNil))) (aa (aP (aa (ai addI S0 (ai modI aw S1)) (aa (ai addI S0 (ai modI au S1)) fNil))) (aa (aP (aa (ai addI SZ (ai modI aw S1)) (aa (ai addI S1 (ai modI au S0)) fNil))) fNil)))) (ai minI ah S0))) (aD (gu (fB (ai cy ah S1)) (setF 8 (aP (aa S0 (aa (ai addI S0 au) fNil)))) nxF) (aD (setF 9 (ai ay (bN (aa (aP (aa (ai addI SZ aQ) fNil)) (aa (aP (aa (ai addI SZ (ai modI aQ S1)) (aa (ai addI SZ (ai modI cX S1)) fNil))) (aa (aP (aa (ai addI SZ (ai modI aQ S1)) (aa (ai addI SZ (ai modI cX S0)) (aa (ai addI SZ (ai modI bw S0)) fNil)))) fNil)))) (ai modI ah S1))) (aD (gu (fB (ai cy ah S1)) (setF 9 (aP (aa (ai addI SZ (ai modI aQ S1)) (aa (ai addI SZ (ai modI cX S1)) (aa (ai addI SZ (ai modI bw S0)) fNil))))) nxF) (aD (setF 9 (bc j6 (bc zZ (bc sortI fu)))) (bt (aP (aa ko (aa fu (aa (ai ay (bN (aa (fC (.str "free")) (aa (fC (.str "sides")) (aa (fC (.str "corners")) fNil)))) jv) fNil)))))))))))
def m__law_game:=bM sC 10
def eg :Fs:=(aD (gu (fB (ai leI (ai addI aQ ah) (ai ay aj SZ))) (gE 2 (aP (aa au (aa aQ (aa (fC (.str "along")) (aa ah fNil)))))) nxF) (gu (rh (fB (ai leI (ai addI au ah) (ai ay aj SY))) (fB (ai gtI ah SZ))) (gE 2 (aP (aa au (aa aQ (aa (fC (.str "down")) (aa ah fNil)))))) nxF))
def cR :Fs:=(dD (dM (ai ay aj SZ)) (bZ 4) (eg ))
def o9 :Fs:=(aD (setO 2 (bN fNil)) (aD (dD (dM (ai ay aj SY)) (bZ 3) (cR )) (tL 2)))
def m__law_ships:=bM (o9 ) 5
def d7 :Fs:=(gE 5 (aP (aa (ai addI ah (ai mulI bw (bc intD (ai cy au (fC (.str "down")))))) (aa (ai addI aw (ai mulI bw (bc intD (ai cy au (fC (.str "along")))))) fNil))))
def qA :Fs:=(aD (BY [1,2,3,4] aj) (aD (setO 5 (bN fNil)) (aD (dD (dM aQ) (bZ 6) (d7 )) (tL 5))))
def m__law_cells:=bM (qA ) 7
def iM :Fs:=(Ai Th.h 2 (fC (.bl true)) (aP (aa (ai addI aQ bw) (aa (ai addI cX jv) fNil))))
def di :Fs:=(dD (ie au) (md [6,7]) (iM ))
def rF:Fs:=(aD (setM 2 (fC (.mp Th.h [] []))) (aD (setF 3 (bN (aa (aP (aa SY (aa SY fNil))) fNil))) (aD (gu (fB (ai vg aj (fC (.str "free")))) (setF 3 (ai ni au (bN (aa (aP (aa SY (aa SZ fNil))) (aa (aP (aa SZ (aa SY fNil))) (aa (aP (aa SY (aa (bc gw SZ) fNil))) (aa (aP (aa (bc gw SZ) (aa SY fNil))) fNil))))))) nxF) (aD (gu (fB (ai cy aj (fC (.str "corners")))) (setF 3 (ai ni au (bN (aa (aP (aa SZ (aa SZ fNil))) (aa (aP (aa SZ (aa (bc gw SZ) fNil))) (aa (aP (aa (bc gw SZ) (aa SZ fNil))) (aa (aP (aa (bc gw SZ) (aa (bc gw SZ) fNil))) fNil))))))) nxF) (aD (dD (ie (λenv=>((aa ah fNil) env).bind m__law_cells)) (md [4,5]) (di )) (yE 2))))))
def m__law_halo:=bM rF 8
def iL :Fs:=(gu (fB (ai (DS Th.h false) au aw)) (bt (fC (.bl false))) nxF)
def c9 :Fs:=(dD (ie ah) (bZ 3) (iL ))
def rW :Fs:=(aD (dD (ie aj) (bZ 2) (c9 )) (bt (fC (.bl true))))
def m__law_free:=bM (rW ) 4
def dJ:Fs:=(aD (setF 13 (GN (ai cy aQ SY) (GN (ai vg (ai ay ah (ai subI aQ SZ)) cX) (ai Jf (ai ay bS (bc gw SZ)) (ai ay bw cG))))) (gu (rh (fB y7) (fB (λenv=>((aa l8 (aa (ai ay ko cG) fNil)) env).bind m__law_free))) (gE 9 (aP (aa (ai l5 bS (aP (aa (ai ay bw cG) fNil))) (aa (ai ni l8 (bN (aa (ai ay jv cG) fNil))) fNil)))) nxF))
def dQ:Fs:=(dD (dM (bc bY bw)) (bZ 12) dJ)
def fV:Fs:=(aD (setF 6 (λenv=>((aa aj (aa cX fNil)) env).bind m__law_ships)) (aD (setF 7 (bG (ie bw) [0] (bZ 0) S3 (a5 (λenv=>((aa ah (aa aj fNil)) env).bind m__law_halo)) 1 [2])) (aD (setF 8 (bG (ie bw) [0] (bZ 0) S3 (a5 (λenv=>((aa aj fNil) env).bind m__law_cells)) 1 [])) (aD (setO 9 (bN fNil)) (aD (dD (ie au) (md [10,11]) dQ) (aD (si 9) (setF 3 fu)))))))
def tZ:Fs:=(aD (setF 3 (bN (aa (aP (aa (aP fNil) (aa (bN fNil) fNil))) fNil))) (aD (dD (yi ah) (md [4,5]) fV) (bt (bG (ie au) [0,1] (md [0,1]) S3 (a5 aj) 2 []))))
def m__law_all:=bM tZ 14
def ny:Fs:=(aD (BY [1,2,3] (λenv=>((aa aj fNil) env).bind m__law_game)) (aD (setF 4 (λenv=>((aa ah (aa aw (aa au fNil))) env).bind m__law_all)) (aD (gu (fB (ai cy aQ (bN fNil))) (aD (setF 2 (aP (aa SZ fNil))) (setF 4 (λenv=>((aa ah (aa aw (aa au fNil))) env).bind m__law_all))) nxF) (bt (aP (aa ah (aa aw (aa au (aa aQ fNil)))))))))
def m__law_played:=bM ny 5
def gB:Fs:=(Az 2 (ai modI (λenv=>((aa aj (aa (ai addI (ai mulI S1 au) SZ) fNil)) env).bind m__law_stir) (ai addI au SZ)) aQ)
def ql:Fs:=(aD (setO 2 (bN fNil)) (aD (dD (yi ah) (md [3,4]) gB) (tL 2)))
def m__law_order:=bM ql 5
def dF:Fs:=(aD (setF 3 (ai addI SZ (ai modI (λenv=>((aa aj (aa (fC (.int 60)) fNil)) env).bind m__law_stir) aw))) (aD (setF 4 (ai addI SZ (ai modI (λenv=>((aa aj (aa (fC (.int 61)) fNil)) env).bind m__law_stir) (ai maxI SZ (ai fdivI (bc bY ah) au))))) (bt (λenv=>((aa aj (aa (tG mH (KG ah (cD (ai modI (λenv=>((aa aj (aa (fC (.int 62)) fNil)) env).bind m__law_stir) (ai maxI SZ (ai fdivI (bc bY ah) S0)))) oNone (cD aQ)) oNone (cD au)) fNil)) env).bind m__law_order))))
def m__law_some_hidings:=bM dF 5
def dk :Fs:=(wY 1 (bG (dM (ai ay aj SZ)) [0] (bZ 0) S3 (a5 (aP (aa ah (aa aj fNil)))) 1 [2]))
def iV :Fs:=(aD (setO 1 (bN fNil)) (aD (dD (dM (ai ay aj SY)) (bZ 2) (dk )) (tL 1)))
def m__law_sheet_cells:=bM (iV ) 3
def bW(eH:SV->SW):Fs:=(aD (gu (AC (fB (ai cy au SY)) (fB (ai cy (ai modI (λenv=>((aa aj (aa au fNil)) env).bind m__law_stir) (fC (.int 5))) SY))) (bt (aP (aa (fC (.str "known")) (aa (ai modI (λenv=>((aa aj (aa (ai addI (fC (.int 90)) au) fNil)) env).bind m__law_stir) (ai addI aw SZ)) fNil)))) nxF) (aD (setF 4 (ai ay ah (ai modI (λenv=>((aa aj (aa (ai addI (fC (.int 91)) au) fNil)) env).bind m__law_stir) (bc bY ah)))) (aD (setF 5 (λenv=>((aa (ai addI (ai mulI S1 aj) SZ) (aa ah (aa aw (aa (ai subI au SZ) fNil)))) env).bind eH)) (bt (aP (aa (fC (.str "look")) (aa aQ (aa cX (aa (λenv=>((aa (ai addI (ai mulI S1 aj) S0) (aa ah (aa aw (aa (ai subI au SZ) fNil)))) env).bind eH) fNil)))))))))
def aN:Nat->SV->SW
 | 0=>λ_=>none
 | n+1=>bM (bW (aN n)) 6
def bX:SV->SW:=aN 5
def uJ :Fs:=(aD (BY [1,2,3,4] aj) (aD (gu (fB (ai cy au (fC (.str "down")))) (bt (bG (dM aQ) [0] (bZ 0) S3 (a5 (aP (aa (ai addI ah aj) (aa aw fNil)))) 1 [1,2])) nxF) (bt (bG (dM aQ) [0] (bZ 0) S3 (a5 (aP (aa ah (aa (ai addI aw aj) fNil)))) 1 [1,2]))))
def m_cells_of:=bM (uJ ) 5
def nh:Fs:=(bt (bc sF (bG (Iq aj) [0] (bZ 0) S3 (ee (ie (λenv=>((aa aj fNil) env).bind m_cells_of)) [1] (bZ 1) S3 (a5 ah)) 2 [])))
def m_lying_cells:=bM nh 1
def nE :Fs:=(aD (setF 1 (bG (dM (bc bY aj)) [0] (bZ 0) S3 (ee (dM aj) [1] (bZ 1) S3 (a5 (aP (aa ah (aa aj fNil))))) 2 [])) (bt (bc sF (bG (ie ah) [0,1] (md [0,1]) (fB (ai cy (ai ay aw aj) (ai ay aw ah))) (a5 (aP (aa aj (aa ah fNil)))) 2 [0]))))
def m_alike_pairs:=bM (nE ) 2
def fg :Fs:=(GS Th.h 1 (bc BX (bG (yi aj) [0,1] (md [0,1]) (fB (ai (D3 false) aw ah)) (a5 (ai oZ SZ aj)) 2 [2])) aw)
def lR :Fs:=(aD (Jd Th.h 1) (aD (dD (ie (uc (ie aj) [0] (bZ 0) S3 (ee (ie aj) [1] (bZ 1) S3 (oN ah)) 2 [])) (bZ 2) (fg )) (aD (si 1) (bt ah))))
def m_cells_by_lot:=bM (lR ) 3
def lu :Fs:=(bt (ai maxI (ai ay aw (ai cS ah aj)) (ai ay aw (ai subI ah (ai cS ah aj)))))
def m_depth_behind:=bM (lu ) 3
def qb:Fs:=(aD (setF 3 (bG (Ku Th.h ah) [0] (bZ 0) (fB (DM ltI ltI SY (ai cS ah aj) ah)) (a5 aj) 1 [0])) (bt (JJ au [0,2] (λenv=>((aa aj (aa ah (aa aw fNil))) env).bind m_depth_behind))))
def m_best_shown:=bM qb 4
def cZ:Fs:=(gu (LX (ai cS au (ai subI au SZ))) (vz 2 au (Dj 2 (ai addI SZ (λenv=>((aa (λenv=>((aa au (aa aj (aa aw fNil))) env).bind m_best_shown) (aa au (aa aw fNil))) env).bind m_depth_behind)))) nxF)
def mq:Fs:=(aD (setO 2 (ai F5 (bN (aa SY fNil)) (ai oZ SZ ah))) (aD (dD (dM (ai oZ SZ ah)) (bZ 3) cZ) (aD (si 2) (bt aw))))
def m_least_depths:=bM mq 4
def fX(mZ:SV->SW):Fs:=(aD (gu (fB (ai cy (ai ay aw aj) SY)) (bt (aP (aa (fC (.str "known")) (aa (ai subI (bc yB aj) SZ) fNil)))) nxF) (aD (setF 3 (λenv=>((aa aj (aa ah (aa aw fNil))) env).bind m_best_shown)) (aD (setF 4 (λenv=>((aa (ai subI aj (ai cS aj au)) (aa ah (aa aw fNil))) env).bind mZ)) (bt (aP (aa (fC (.str "look")) (aa (ai (ze Th.h) ah au) (aa aQ (aa (λenv=>((aa (ai cS aj au) (aa ah (aa aw fNil))) env).bind mZ) fNil)))))))))
def bB:Nat->SV->SW
 | 0=>λ_=>none
 | n+1=>bM (fX (bB n)) 5
def iX:SV->SW:=bB 64
def fJ:Fs:=(aD (gu (xr (fB (DM leI leI SZ (bc bY aj) (fC d6)))) (λ_=>none) nxF) (aD (setF 1 (bG (ie aj) [0] (bZ 0) S3 (a5 (λenv=>((aa aj fNil) env).bind m_lying_cells)) 1 [])) (aD (setF 2 (λenv=>((aa ah fNil) env).bind m_alike_pairs)) (aD (gu (fT aw) (bt (ai l5 (aP (aa (fC (.str "alike")) fNil)) (ai ay aw SY))) nxF) (aD (setF 3 (λenv=>((aa ah fNil) env).bind m_cells_by_lot)) (aD (setF 4 (λenv=>((aa au (aa (bc bY ah) fNil)) env).bind m_least_depths)) (bt (aP (aa (fC (.str "plan")) (aa (ai ay aQ (bc gw SZ)) (aa (λenv=>((aa (ai subI (bc bY aQ) SZ) (aa au (aa aQ fNil))) env).bind iX) fNil)))))))))))
def m_least_plan:=bM fJ 5
def cJ(kJ:SV->SW):Fs:=(aD (GQ [3,4,5,6] (λenv=>((aa aj (aa (bN (aa (fC (.int 7)) (aa (fC (.int 64)) (aa S1 (aa (fC (.int 12)) fNil))))) fNil)) env).bind m__law_drawn)) (aD (gu (fB (ai cy au SY)) (bt (aP (aa (fC (.str "look")) (aa (ai ay aw (ai modI aQ (bc bY aw))) (aa ah (aa ah fNil)))))) nxF) (aD (gu (fB (ai cy (ai ay ah SY) (fC (.str "known")))) (bt (aP (aa (fC (.str "known")) (aa (ai ay (bN (aa (ai addI (ai ay ah SZ) SZ) (aa (ai subI (ai ay ah SZ) SZ) (aa SY (aa (ai powI (fC (.int 10)) (fC (.int 30))) (aa (ai ay ah SZ) (aa (bc gw SZ) fNil))))))) (ai modI bw (fC (.int 6)))) fNil)))) nxF) (aD (gu (fB (ai cy au SZ)) (bt (aP (aa (fC (.str "look")) (aa (ai ay aw (ai modI aQ (bc bY aw))) (aa (ai ay ah S0) (aa (ai ay ah S1) fNil)))))) nxF) (aD (gu (fB (ai cy au S0)) (bt (aP (aa (fC (.str "look")) (aa (ai ay ah SZ) (aa (ai ay ah S1) (aa (ai ay ah S0) fNil)))))) nxF) (aD (gu (fB (ai cy au S1)) (bt (aP (aa (fC (.str "look")) (aa (ai ay (bN (aa (aP (aa (bc gw SZ) (aa SY fNil))) (aa (aP (aa (fC (.int 64)) (aa (fC (.int 64)) fNil))) (aa (aP (aa SY (aa (ai powI (fC (.int 10)) (fC (.int 20))) fNil))) fNil)))) cX) (aa (ai ay ah S0) (aa (ai ay ah S1) fNil)))))) nxF) (aD (gu (fB (ai cy cX SY)) (bt (ai l5 (tG gH ah oNone (cD S0)) (aP (aa (λenv=>((aa (ai addI (ai fdivI aj (fC (.int 7))) SZ) (aa (ai ay ah S0) (aa aw fNil))) env).bind kJ) (aa (ai ay ah S1) fNil))))) nxF) (bt (ai l5 (tG gH ah oNone (cD S1)) (aP (aa (λenv=>((aa (ai addI (ai fdivI aj (fC (.int 7))) SZ) (aa (ai ay ah S1) (aa aw fNil))) env).bind kJ) fNil)))))))))))
def aO:Nat->SV->SW
 | 0=>λ_=>none
 | n+1=>bM (cJ (aO n)) 7
def cb:SV->SW:=aO 70
def jn :Fs:=(setF 0 (ai ay aj (ai addI S0 (bc intD (ai (DS Th.h false) (ai ay aj SZ) ah)))))
def uq :Fs:=(aD (tj 70 (fB (ai cy (ai ay aj SY) (fC (.str "look")))) (jn )) (bt (ai ay aj SZ)))
def m__law_end:=bM (uq ) 2
def gq :Fs:=(Ai Th.h 1 (fC (.bl true)) au)
def dA:Fs:=(dD (ie (λenv=>((aa aw fNil) env).bind m__law_cells)) (bZ 3) (gq ))
def nB:Fs:=(aD (setM 1 (fC (.mp Th.h [] []))) (aD (dD (Iq aj) (bZ 2) dA) (yE 1)))
def m__law_ground:=bM nB 4
def eI :Fs:=(aD (BY [3,4,5,6] aj) (setF 0 (iteFn (fB (ai (D3 false) aQ aw)) bw cX)))
def rM:Fs:=(aD (setF 2 (λenv=>((aa ah fNil) env).bind m_lying_cells)) (aD (tj 70 (fB (ai cy (ai ay aj SY) (fC (.str "look")))) (eI )) (bt (ai ay aj SZ))))
def m_number_by:=bM rM 7
def F_plan_holds:Fs:=(bt (bc CB (bG (yi aj) [0,1] (md [0,1]) S3 (a5 (ai cy (λenv=>((aa aw (aa ah fNil)) env).bind m_number_by) aj)) 2 [1])))
def m_plan_holds:=bM F_plan_holds 2
def nF :Fs:=(bt (bG (ie aj) [0] (bZ 0) (fB (ai cy (ai ay aj SY) (fC (.str "look")))) (a5 aj) 1 []))
def m_looks_among:=bM (nF ) 1
def gf:Fs:=(aD (Jc 1 SZ) (setF 2 (λenv=>((aa (bG (ie aw) [0,1,2] (Gs 0 1 2) S3 (ee (ie aw) [3] (bZ 3) S3 (a5 au)) 4 []) fNil) env).bind m_looks_among)))
def ui:Fs:=(aD (setF 1 SY) (aD (setF 2 (λenv=>((aa (bN (aa aj fNil)) fNil) env).bind m_looks_among)) (aD (tj 70 (fT aw) gf) (bt ah))))
def m_depth_of:=bM ui 3
def jE(jH:SV->SW):Fs:=(bt (iteFn (fB (ai cy (ai ay aj SY) (fC (.str "known")))) SY (ai addI SZ (ai maxI (λenv=>((aa (ai ay aj S0) fNil) env).bind jH) (λenv=>((aa (ai ay aj S1) fNil) env).bind jH)))))
def bE:Nat->SV->SW
 | 0=>λ_=>none
 | n+1=>bM (jE (bE n)) 1
def cj:SV->SW:=bE 70
def jk:Fs:=(aD (setF 11 (bG (ie bw) [0] (bZ 0) S3 (a5 (λenv=>((aa ah (aa (λenv=>((aa aj fNil) env).bind m__law_ground) fNil)) env).bind m__law_end)) 1 [10])) (aD (setF 12 (λenv=>((aa (bc oQ bw) (aa bS fNil)) env).bind m_plan_holds)) (aD (gu (AC (xr (fB (bc (Dh .bool) cG))) (fB (ai vg cG (ai cy l8 (bc Cm (bc bY bw)))))) (bt (fC (.bl false))) nxF) (gu (AC (fB (ai vg (λenv=>((aa bS fNil) env).bind m_depth_of) (λenv=>((aa bS fNil) env).bind cj))) (fB (bc (Dh .bool) (λenv=>((aa bS fNil) env).bind m_depth_of)))) (bt (fC (.bl false))) nxF))))
def k8:Fs:=(aD (BY [2,3,4,5] (λenv=>((aa ah fNil) env).bind m__law_played)) (aD (setF 6 (λenv=>((aa ah (aa cX (aa (fC (.int 6)) fNil))) env).bind m__law_some_hidings)) (aD (setF 7 (λenv=>((aa aw fNil) env).bind m__law_sheet_cells)) (aD (setO 8 (bN (aa (λenv=>((aa (ai modI ah (ai powI (fC (.int 10)) (fC (.int 40)))) (aa jv (aa (bc bY bw) (aa S2 fNil)))) env).bind bX) fNil))) (aD (setF 9 (λenv=>((aa bw fNil) env).bind m_least_plan)) (aD (gu (fB (ai cy (ai ay fu SY) (fC (.str "plan")))) (aD (gE 8 (ai ay fu S0)) (setO 8 (ai ni (λenv=>zK env 8) (bG (dM (fC (.int 6))) [0] (bZ 0) S3 (a5 (λenv=>((aa (ai addI ah aj) (aa (ai ay aw S0) (aa au fNil))) env).bind cb)) 1 [1,9,7])))) nxF) (aD (si 8) (dD (ie ko) (bZ 10) jk))))))))
def Ic:Fs:=(aD (dD (ie (ai ni (bN (aa SY fNil)) (tG mH aj oNone (cD (fC (.int 12)))))) (bZ 1) k8) (bt (fC (.bl true))))
def m_law:=bM Ic 13
end
end K30
namespace K30
open PySem Mi
variable [Th]
theorem qk(c k:Int)(hk:0<=k)(hk2:k<=1000):∃z,m__law_stir [.int c,.int k]=some (.int z):=by
 have p60:powI (.int 10) (.int 60)=some (.int (10 ^ 60)):=iY (gG (by decide) (by decide)) (by decide) (by decide);have MM:(0:Int)<10 ^ 60:=by decide +kernel
 have h1:(c%10 ^ 60).natAbs<=10 ^ 60:=by
  have a:=O8 c (Int.ne_of_gt MM);have b:=OV c MM;have e:(10 ^ 60:Int)=((10 ^ 60:Nat):Int):=by decide +kernel
  lia
 have m1:mulI (.int 7919) (.int k)=some (.int (7919*k)):=mT (by decide) (by decide) (by lia) (by lia);have h2:(c%10 ^ 60+7919*k+1).natAbs<=10 ^ 60+7919001:=by lia
 have m2:mulI (.int (c%10 ^ 60+7919*k+1)) (.int 27182818284590452353602874713527)=some (.int ((c%10 ^ 60+7919*k+1)*27182818284590452353602874713527)):=Do (jN _ h2) (jN 27182818284590452353602874713527 (by decide));generalize hn:(c%10 ^ 60+7919*k+1)*27182818284590452353602874713527=n at m2;have Kq:modI (.int n) (.int 170141183460469231731687303715884105727)=some (.int (n%170141183460469231731687303715884105727)):=eJ (by decide);have h3:(n%170141183460469231731687303715884105727).natAbs<=170141183460469231731687303715884105727:=by lia
 generalize n%170141183460469231731687303715884105727=q at Kq h3;have p5:powI (.int q) (.int 5)=some (.int (q ^ 5)):=iY (jN _ h3) (by decide) (by decide);have h4:=BC _ 5 h3;have m3:mulI (.int 48271) (.int k)=some (.int (48271*k)):=mT (by decide) (by decide) (by lia) (by lia);have h5:(q ^ 5+48271*k).natAbs<=170141183460469231731687303715884105727 ^ 5+48271000:=Dq _ _ h4 (by lia);generalize q ^ 5=t at p5 h5;have p3:powI (.int (t+48271*k)) (.int 3)=some (.int ((t+48271*k) ^ 3)):=iY (jN _ h5) (by decide) (by decide);have hmod2:modI (.int ((t+48271*k) ^ 3)) (.int 162259276829213363391578010288127)=some (.int ((t+48271*k) ^ 3%162259276829213363391578010288127)):=eJ (by decide);have hd:fdivI (.int ((t+48271*k) ^ 3%162259276829213363391578010288127)) (.int 7)=some (.int ((t+48271*k) ^ 3%162259276829213363391578010288127/7)):=jc (by decide) (by decide);have hmod0:modI (.int c) (.int (10 ^ 60))=some (.int (c%10 ^ 60)):=eJ MM;refine⟨(t+48271*k) ^ 3%162259276829213363391578010288127/7,?_⟩
 .unfold m__law_stir bM kH;simp only[aT,List.map,List.length,List.replicate,Pz,O_,aD,setF,bt,ai,fC,F9,FU,M_,List.set,List.getElem?_cons_zero,List.getElem?_cons_succ,p60,hmod0,m1,eu,m2,Kq,p5,m3,p3,hmod2,hd]
theorem Fd:∃w,powI (.int 10) (.int 18)=some (.int w):=⟨_,iY (gG (by decide) (by decide)) (by decide) (by decide)⟩
theorem Dp(c q:Int)(ss r:Sz)(i:Nat)(s:Int)(Kr:ss[i]?=some s)(hpos:0<s/\s<1073741824)(hi:i<1000)(hr:r.length=i) :
  ∃y q',dY [.F (.int c),.F (.lst (ss.map .int)),.O (.L (r.map .int)),.F (.int q),.F (.int i)]=some (.nx [.F (.int c),.F (.lst (ss.map .int)),.O (.L ((r++[y]).map .int)),.F (.int q'),.F (.int i)])/\0<=y/\y<s:=by
 obtain⟨w,p18⟩:=Fd;have EE:L2.atI (ss.map D.int) (i:Int)=some (.int s):=dh (by rw[m_,Kr];rfl);obtain⟨z,hz⟩:=qk c i (by lia) (by lia);have NS:(r.map D.int).length<16000000:=by simp;lia
 have snoc:∀y:Int,(r++[y]).map D.int=r.map D.int++[D.int y]:=λy=>by simp
 have NT:ai ay ah aQ [.F (.int c),.F (.lst (ss.map .int)),.O (.L (r.map .int)),.F (.int q),.F (.int i)]=some (.int s):=ez rfl rfl EE;have t1:fB (ai ltI aj (ai powI (fC (.int 10)) (fC (.int 18)))) [.F (.int c),.F (.lst (ss.map .int)),.O (.L (r.map .int)),.F (.int q),.F (.int i)]=some (decide (c<w)):=dO ((az rfl ((az rfl rfl).trans p18)).trans (Li _ _));have t2:fB (ai cy au SY) [.F (.int c),.F (.lst (ss.map .int)),.O (.L (r.map .int)),.F (.int q),.F (.int i)]=some (q==0):=dO ((az rfl rfl).trans (ua _ _));have wx:∀{t:Fb}{g:Fs},t [.F (.int c),.F (.lst (ss.map .int)),.O (.L (r.map .int)),.F (.int q),.F (.int i)]=some true->gu t (gE 2 (ai modI (λenv=>((aa aj (aa aQ fNil)) env).bind m__law_stir) (ai ay ah aQ))) g [.F (.int c),.F (.lst (ss.map .int)),.O (.L (r.map .int)),.F (.int q),.F (.int i)]=some (.nx [.F (.int c),.F (.lst (ss.map .int)),.O (.L ((r++[z%s]).map .int)),.F (.int q),.F (.int i)]):=λht=>by
  rw[snoc];exact(cf ht).trans ((ky rfl ((az ((call_v (af rfl (af rfl aE))).trans hz) NT).trans (eJ hpos.1)) NS))
 by_cases h1:c<w
 .rw[v_ h1]at t1;exact⟨z%s,q,wx (Jw t1),O8 _ (by lia),OV _ hpos.1⟩
 .rw[Ot h1]at t1
  by_cases h2:q=0
  .rw[show(q==0)=true by simp[h2]]at t2;exact⟨z%s,q,wx ((Eo t1).trans t2),O8 _ (by lia),OV _ hpos.1⟩
  .rw[show(q==0)=false by simp[h2]]at t2;refine⟨q%s,q/s,?_,O8 _ (by lia),OV _ hpos.1⟩;rw[snoc];refine(be ((Eo t1).trans t2)).trans ((ak (ky rfl ((az rfl NT).trans (eJ hpos.1)) NS)).trans (aS ((az rfl (ez rfl rfl EE)).trans (jc hpos.1 hpos.2))))
theorem sP(c:Int)(ss:Sz)(hs:∀x∈ss,0<x/\x<1073741824)(hl:ss.length<=1000) :
  ∃r:Sz,m__law_drawn [.int c,.lst (ss.map .int)]=some (.lst (r.map .int))/\r.length=ss.length/\∀(i:Nat)(x s:Int),r[i]?=some x->ss[i]?=some s->0<=x/\x<s:=by
 let I:Nat->En->Prop:=λn env=>∃(r:Sz)(q:Int)(s4:Slot),env=[.F (.int c),.F (.lst (ss.map .int)),.O (.L (r.map .int)),.F (.int q),s4]/\r.length=n/\∀(i:Nat)(x s:Int),r[i]?=some x->ss[i]?=some s->0<=x/\x<s
 have hrl:(aI 0 ss.length).length=ss.length:=by simp[aI]
 obtain⟨e2,h1,r,q,s4,he,hr,hx⟩:=df (t:=bZ 4) (body:=dY) I (aI 0 ss.length) 0 [.F (.int c),.F (.lst (ss.map .int)),.O (.L []),.F (.int c),.un] ⟨[],c,.un,rfl,rfl,λi x s h=>by simp at h⟩ λi d e hd aG=>by
   obtain⟨r,q,s4,he,hr,hx⟩:=aG;subst he;obtain⟨rfl,hi⟩:=vL hd;obtain⟨s,Kr⟩:∃s,ss[i]?=some s:=⟨ss[i],f_ hi⟩;have hpos:=hs s (Ox Kr);obtain⟨y,q',h2,h3,h4⟩:=Dp c q ss r i s Kr hpos (by lia) (by lia);refine⟨_,h2,r++[y],q',_,rfl,by simp;lia,λj x s' m8 hsj=>?_⟩
   by_cases hj:j<r.length
   .rw[N_ hj]at m8;exact hx j x s' m8 hsj
   .rw[J_ (by lia)]at m8;have hj0:j-r.length=0:=by
     have:=(o_.mp m8).1;simp at this
     lia
    rw[hj0]at m8;cases m8;rw[show j=i by lia,Kr]at hsj;cases hsj;exact⟨h3,h4⟩
 subst he;rw[hrl]at hr;refine⟨r,?_,by lia,hx⟩;have hit:dM (bc bY ah) [.F (.int c),.F (.lst (ss.map .int)),.O (.L []),.F (.int c),.un]=some (aI 0 ss.length):=by
  rw[<- c_ (f:=D.int) (as:=ss)];exact dB (gA rfl) (by rw[c_];lia)
 exact aV ((ak rfl).trans ((ak rfl).trans ((ak ((cF hit).trans h1)).trans rfl)))
abbrev o4:Str:="along"
abbrev sDn:Str:="down"
abbrev HB:Str:="free"
abbrev Hz:Str:="sides"
abbrev Kw:Str:="corners"
def ef(r:Str):Prop:=r=HB\/r=Hz\/r=Kw
structure Sh where
 a:Int
 b:Int
 dn:Bool
 n:Nat
 deriving DecidableEq
def Sh.w(s:Sh):Str:=if s.dn=true then sDn else o4
def Sh.d(s:Sh):D:=.tup [.int s.a,.int s.b,.str s.w,.int s.n]
def Sh.at(s:Sh)(i:Int):SA:=if s.dn=true then(s.a+i,s.b)else(s.a,s.b+i)
def Sh.cs(s:Sh):So:=(List.range s.n).map λ(i:Nat)=>s.at i
def cel(p:SA):D:=.tup [.int p.1,.int p.2]
theorem uY(n:Nat):(aI 0 n).map g=(List.range n).map λ(i:Nat)=>g (.int i):=by
 unfold aI;simp[OA,RT]
theorem sL(n:Nat):(aI 0 n).flatMap g=(List.range n).flatMap λ(i:Nat)=>g (.int i):=by
 unfold aI;rw[RZ];simp
theorem DT:∀(ds:SV),(ds.flatMap λd=>[g d])=ds.map g
 | []=>rfl
 | d::ds=>by rw[O7,DT ds];rfl
theorem pW(h1:fi env=some ds)(h2:dE is env=true)(h3:iT t c k env ds=some xs):ee fi is t c k env=some xs:=by
 unfold ee;rw[h1];show(if dE is env=true then _ else _)=_;rw[k_ h2,h3]
def Ky(s:Sh):D->D
 | .int i=>cel (s.at i)
 | _=>.non
theorem uE(s:Sh):(aI 0 s.n).map (Ky s)=s.cs.map cel:=by
 rw[uY];unfold Sh.cs;rw[OA];rfl
theorem tX(s:Sh):s.cs.length=s.n:=by unfold Sh.cs;simp
theorem EV(s:Sh)(s0:Slot)(i:Nat)(hi:i<1000)(acc:SV)(hl:acc.length<16000) :
  d7 [s0,.F (.int s.a),.F (.int s.b),.F (.str s.w),.F (.int s.n),.O (.L acc),.F (.int i)]=some (.nx [s0,.F (.int s.a),.F (.int s.b),.F (.str s.w),.F (.int s.n),.O (.L (acc++[cel (s.at i)])),.F (.int i)]):=by
 obtain⟨a,b,dn,n⟩:=s;have m0:mulI (.int i) (.int 0)=some (.int 0):=by rw[mT (by lia) (by lia) (by decide) (by decide),Int.mul_zero]
 have m1:mulI (.int i) (.int 1)=some (.int i):=by rw[mT (by lia) (by lia) (by decide) (by decide),Int.mul_one]
 cases dn
 .have e0:bc intD (ai cy au (fC (.str "down"))) [s0,.F (.int a),.F (.int b),.F (.str o4),.F (.int n),.O (.L acc),.F (.int i)]=some (.int 0):=rfl;have e1:bc intD (ai cy au (fC (.str "along"))) [s0,.F (.int a),.F (.int b),.F (.str o4),.F (.int n),.O (.L acc),.F (.int i)]=some (.int 1):=rfl;refine ky (d:=cel (a,b+i)) rfl (cu (af ((az (y:=.int 0) rfl ((az rfl e0).trans m0)).trans ?_) (af ((az (y:=.int i) rfl ((az rfl e1).trans m1)).trans (eu _ _)) aE))) (by lia);rw[eu,Int.add_zero]
 .have e0:bc intD (ai cy au (fC (.str "along"))) [s0,.F (.int a),.F (.int b),.F (.str sDn),.F (.int n),.O (.L acc),.F (.int i)]=some (.int 0):=rfl;have e1:bc intD (ai cy au (fC (.str "down"))) [s0,.F (.int a),.F (.int b),.F (.str sDn),.F (.int n),.O (.L acc),.F (.int i)]=some (.int 1):=rfl;refine ky (d:=cel (a+i,b)) rfl (cu (af ((az (y:=.int i) rfl ((az rfl e1).trans m1)).trans (eu _ _)) (af ((az (y:=.int 0) rfl ((az rfl e0).trans m0)).trans ?_) aE))) (by lia);rw[eu,Int.add_zero]
theorem lM(s:Sh)(hn:s.n<=1000):m__law_cells [s.d]=some (.lst (s.cs.map cel)):=by
 obtain⟨e2,h1,s6,h2⟩:=gR (t:=bZ 6) (body:=d7) (λacc e=>∃s6,e=[.F s.d,.F (.int s.a),.F (.int s.b),.F (.str s.w),.F (.int s.n),.O (.L acc),s6]) (λd=>[Ky s d]) 1 8000 (aI 0 s.n) [] [.F s.d,.F (.int s.a),.F (.int s.b),.F (.str s.w),.F (.int s.n),.O (.L []),.un] ⟨_,rfl⟩ (by rw[eD,Pr];lia) λd hd=>⟨h_ _,λacc e ⟨s6,he⟩ hl=>by
  subst he;obtain⟨i,hi,rfl⟩:=jb.mp hd;exact⟨_,EV s (.F s.d) i (by lia) acc (by lia),_,rfl⟩⟩
 subst h2;rw[DT,uE,O_]at h1;exact aV ((ak (qS (ds:=[.int s.a,.int s.b,.str s.w,.int s.n]) rfl rfl)).trans ((ak (gP rfl)).trans ((ak ((cF (dB (n:=s.n) rfl (by lia))).trans h1)).trans rfl)))
theorem uj(s:Sh)(hn:s.n<=1000):m_cells_of [s.d]=some (.lst (s.cs.map cel)):=by
 have hl:(s.cs.map cel).length<=16000000:=by rw[c_];unfold Sh.cs;simp;lia
 have hit:dM aQ [.F s.d,.F (.int s.a),.F (.int s.b),.F (.str s.w),.F (.int s.n)]=some (aI 0 s.n):=dB (n:=s.n) rfl (by lia);refine aV ((ak (qS (ds:=[.int s.a,.int s.b,.str s.w,.int s.n]) rfl rfl)).trans ?_);show aD _ _ [.F s.d,.F (.int s.a),.F (.int s.b),.F (.str s.w),.F (.int s.n)]=_;obtain⟨a,b,dn,n⟩:=s;cases dn
 .have e0:fB (ai cy au (fC (.str "down"))) [.F (Sh.d ⟨a,b,false,n⟩),.F (.int a),.F (.int b),.F (.str o4),.F (.int n)]=some false:=rfl;refine(ak ((be e0).trans rfl)).trans (bu (cg hit rfl ?_ hl));rw[<- uE];refine pT (Ky ⟨a,b,false,n⟩) _ λd hd=>?_;obtain⟨i,hi,rfl⟩:=jb.mp hd;exact⟨_,rfl,rfl⟩
 .have e0:fB (ai cy au (fC (.str "down"))) [.F (Sh.d ⟨a,b,true,n⟩),.F (.int a),.F (.int b),.F (.str sDn),.F (.int n)]=some true:=rfl;refine ec ((cf e0).trans (bu (cg hit rfl ?_ hl)));rw[<- uE];refine pT (Ky ⟨a,b,true,n⟩) _ λd hd=>?_;obtain⟨i,hi,rfl⟩:=jb.mp hd;exact⟨_,rfl,rfl⟩
def eh(p:SA):List L2.Key:=[.inl p.1,.inl p.2]
theorem z8(h:eh p=eh q):p=q:=by
 unfold eh at h;obtain⟨a,b⟩:=p;obtain⟨c,d⟩:=q;simp only[List.cons.injEq,Sum.inl.injEq,and_true]at h;rw[h.1,h.2]
theorem fA{L:So}{p:SA}:eh p∈L.map eh↔p∈L:=⟨λh=>by obtain⟨q,hq,e⟩:=x_.mp h;exact z8 e▸hq,Pv⟩
def pJ(ks:So):qE:=.M Th.h (ks.map eh) (ks.map λ_=>.bl true)
def cP(ks:So):D:=.mp Th.h (ks.map eh) (ks.map λ_=>.bl true)
def IC:List L2.Key->Option SA
 | [.inl a,.inl b]=>some (a,b)
 | _=>none
def FH:D->So
 | .mp _ ks _=>ks.filterMap IC
 | _=>[]
theorem uy:∀ks:So,FH (cP ks)=ks:=λks=>by
 show(ks.map eh).filterMap IC=ks;rw[RB];exact List.filterMap_some
theorem va(q:List L2.Key)(x:D):∀ks:So,cx (ks.map eh) (ks.map λ_=>x) q x=ks.map λ_=>x
 | []=>rfl
 | k::ks=>by
  show(if eh k=q then x else x)::cx (ks.map eh) (ks.map λ_=>x) q x=_;rw[va q x ks,ite_self];rfl
theorem vA(ks:So)(p q:SA):q∈il ks p↔q∈ks\/q=p:=by
 unfold il
 split
 .rename_i h;exact⟨λz=>.inl z,λz=>z.elim id λe=>e▸h⟩
 .simp
theorem wg(ks:So)(p:SA):(il ks p).length<=ks.length+1:=by
 unfold il;split<;>simp
open Classical in
theorem D2{i:Nat}{fk:Fe}{env:En}{ks:So}{a b:Int}(h:fk env=some (.tup [.int a,.int b]))(h1:env[i]?=some (.O (pJ ks)))(hl:ks.length<16000000):Ai Th.h i (fC (.bl true)) fk env=some (.nx (env.set i (.O (pJ (il ks (a,b)))))):=by
 have e:qE.M Th.h (sZ (ks.map eh) (eh (a,b))) (sW (ks.map eh) (ks.map λ_=>D.bl true) (eh (a,b)) (.bl true))=pJ (il ks (a,b)):=by
  unfold sZ sW il pJ
  by_cases hm:(a,b)∈ks
  .rw[k_ (fA.mpr hm),k_ (fA.mpr hm),k_ hm,va]
  .rw[l_ (λz=>hm (fA.mp z)),l_ (λz=>hm (fA.mp z)),l_ hm,OB,OB];rfl
 rw[<- e];unfold Ai;rw[show fC (.bl true) env=some (D.bl true)from rfl,M_,h,M_,show Df (.tup [.int a,.int b])=some (eh (a,b))from rfl,M_,h1];show(if Th.h=Th.h/\(ks.map eh).length<16000000 then _ else _)=_;rw[k_ ⟨rfl,by rw[c_];exact hl⟩]
def plus(p q:SA):SA:=(p.1+q.1,p.2+q.2)
theorem JD(s0 s1 s6 s7:Slot)(st:So)(hst:st.length<=9)(p:SA)(ks:So)(hk:ks.length<=15000) :
  ∃ig Hm Hn,di [s0,s1,.O (pJ ks),.F (.lst (st.map cel)),.F (.int p.1),.F (.int p.2),s6,s7]=some (.nx [s0,s1,.O (pJ ig),.F (.lst (st.map cel)),.F (.int p.1),.F (.int p.2),Hm,Hn])/\ig.length<=ks.length+9/\∀q,q∈ig↔q∈ks\/∃t∈st,q=plus p t:=by
 obtain⟨e2,h1,ig,Hm,Hn,h2,h3,h4⟩:=df (t:=md [6,7]) (body:=iM) (λj e=>∃ig Hm Hn,e=[s0,s1,.O (pJ ig),.F (.lst (st.map cel)),.F (.int p.1),.F (.int p.2),Hm,Hn]/\ig.length<=ks.length+j/\∀q,q∈ig↔q∈ks\/∃t∈st.take j,q=plus p t) (st.map cel) 0 _ ⟨ks,s6,s7,rfl,by lia,λq=>by simp⟩ λi d e hd aG=>by
  obtain⟨ig,Hm,Hn,he,h3,h4⟩:=aG;subst he;rw[m_]at hd;obtain⟨q,hq,rfl⟩:=Ow.mp hd;have hi:=(o_.mp hq).1;have u3:=wg ig (p.1+q.1,p.2+q.2);refine⟨_,fM (e0:=[s0,s1,.O (pJ ig),.F (.lst (st.map cel)),.F (.int p.1),.F (.int p.2),.F (.int q.1),.F (.int q.2)]) rfl (D2 (ks:=ig) (a:=p.1+q.1) (b:=p.2+q.2) rfl rfl (by lia)),_,_,_,rfl,by lia,λx=>?_⟩;rw[vA,h4,Oy,PX,hq];simp only[RI,Oz,u_];constructor
  .rintro((h | ⟨t,ht,e⟩) | e)
   .exact .inl h
   .exact .inr ⟨t,.inl ht,e⟩
   .exact .inr ⟨q,.inr rfl,e⟩
  .rintro(h | ⟨t,ht | rfl,e⟩)
   .exact .inl (.inl h)
   .exact .inl (.inr ⟨t,ht,e⟩)
   .exact .inr e
 subst h2;rw[c_,Oy]at h3 h4;rw[O3]at h4;exact⟨ig,Hm,Hn,(cF (cm rfl)).trans h1,by lia,h4⟩
theorem jK(s:Sh)(hn:s.n<=1000)(r:D)(st:So)(hst:st.length<=9) :
  ∃ks,aD (dD (ie (λenv=>((aa ah fNil) env).bind m__law_cells)) (md [4,5]) (di )) (yE 2) [.F r,.F s.d,.O (pJ []),.F (.lst (st.map cel)),.un,.un,.un,.un]=some (.rt (cP ks))/\∀q,q∈ks↔∃p∈s.cs,∃t∈st,q=plus p t:=by
 have hlen:=tX s;obtain⟨e2,h1,ks,s4,s5,s6,s7,h2,h3,h4⟩:=df (t:=md [4,5]) (body:=di) (λj e=>∃ks s4 s5 s6 s7,e=[.F r,.F s.d,.O (pJ ks),.F (.lst (st.map cel)),s4,s5,s6,s7]/\ks.length<=9*j/\∀q,q∈ks↔∃p∈s.cs.take j,∃t∈st,q=plus p t) (s.cs.map cel) 0 _ ⟨[],.un,.un,.un,.un,rfl,by simp,λq=>by simp⟩ λi d e hd aG=>by
  obtain⟨ks,s4,s5,s6,s7,he,h3,h4⟩:=aG;subst he;rw[m_]at hd;obtain⟨q,hq,rfl⟩:=Ow.mp hd;have hi:=(o_.mp hq).1;obtain⟨ig,Hm,Hn,u1,u2,u3⟩:=JD (.F r) (.F s.d) s6 s7 st hst q ks (by lia);refine⟨_,fM (e0:=[.F r,.F s.d,.O (pJ ks),.F (.lst (st.map cel)),.F (.int q.1),.F (.int q.2),s6,s7]) rfl u1,ig,_,_,_,_,rfl,by lia,λx=>?_⟩;rw[u3,h4,Oy,PX,hq];simp only[RI,Oz,u_];constructor
  .rintro(⟨p,hp,t,ht,e⟩ | ⟨t,ht,e⟩)
   .exact⟨p,.inl hp,t,ht,e⟩
   .exact⟨q,.inr rfl,t,ht,e⟩
  .rintro⟨p,hp | rfl,t,ht,e⟩
   .exact .inl ⟨p,hp,t,ht,e⟩
   .exact .inr ⟨t,ht,e⟩
 subst h2;rw[c_,Oy]at h4;rw[O3]at h4;exact⟨ks,(ak ((cF (cm ((call_v (af rfl aE)).trans (lM s hn)))).trans h1)).trans rfl,h4⟩
def steps(r:Str):So:=
 if r=HB then [(0,0)]else if r=Hz then [(0,0),(0,1),(1,0),(0,-1),(-1,0)]else [(0,0),(0,1),(1,0),(0,-1),(-1,0),(1,1),(1,-1),(-1,1),(-1,-1)]
theorem lF:steps HB=[(0,0)]:=by unfold steps;rw[k_ rfl]
theorem lG:steps Hz=[(0,0),(0,1),(1,0),(0,-1),(-1,0)]:=by unfold steps;rw[l_ (by decide),k_ rfl]
theorem lZ:steps Kw=[(0,0),(0,1),(1,0),(0,-1),(-1,0),(1,1),(1,-1),(-1,1),(-1,-1)]:=by unfold steps;rw[l_ (by decide),l_ (by decide)]
theorem BS(s:Sh)(hn:s.n<=1000)(r:Str)(hr:ef r):∃ks,m__law_halo [.str r,s.d]=some (cP ks)/\∀q,q∈ks↔∃p∈s.cs,∃t∈steps r,q=plus p t:=by
 rcases hr with rfl | rfl | rfl
 .obtain⟨ks,h1,h2⟩:=jK s hn (.str HB) [(0,0)] (by decide);exact⟨ks,aV ((ak rfl).trans ((ak rfl).trans ((ak ((be rfl).trans rfl)).trans ((ak ((be rfl).trans rfl)).trans h1)))),by rw[lF];exact h2⟩
 .obtain⟨ks,h1,h2⟩:=jK s hn (.str Hz) [(0,0),(0,1),(1,0),(0,-1),(-1,0)] (by decide);exact⟨ks,aV ((ak rfl).trans ((ak rfl).trans ((ak ((cf rfl).trans rfl)).trans ((ak ((be rfl).trans rfl)).trans h1)))),by rw[lG];exact h2⟩
 .obtain⟨ks,h1,h2⟩:=jK s hn (.str Kw) [(0,0),(0,1),(1,0),(0,-1),(-1,0),(1,1),(1,-1),(-1,1),(-1,-1)] (by decide);exact⟨ks,aV ((ak rfl).trans ((ak rfl).trans ((ak ((cf rfl).trans rfl)).trans ((ak ((cf rfl).trans rfl)).trans h1)))),by rw[lZ];exact h2⟩
abbrev o3(a b:Int)(w:Str)(l:Int):D:=.tup [.int a,.int b,.str w,.int l]
def gS(r c l:Int):D->D->SV
 | .int a,.int b=>(if b+l<=c then [o3 a b o4 l]else [])++(if a+l<=r/\1<l then [o3 a b sDn l]else [])
 | _,_=>[]
theorem yp(r c l:Int)(x y:D):(gS r c l x y).length<=2:=by
 unfold gS
 split
 .rw[t_];split<;>split<;>simp
 .simp
abbrev eS(r c l:Int)(acc:SV)(s3 s4:Slot):En:=[.F (.tup [.int r,.int c]),.F (.int l),.O (.L acc),s3,s4]
theorem wB(r c l a b:Int)(acc:SV)(h:acc.length+2<=16000):eg (eS r c l acc (.F (.int a)) (.F (.int b)))=some (.nx (eS r c l (acc++gS r c l (.int a) (.int b)) (.F (.int a)) (.F (.int b)))):=by
 have p1:∀c8:SV,c8.length<16000->gE 2 (aP (aa au (aa aQ (aa (fC (.str "along")) (aa ah fNil))))) (eS r c l c8 (.F (.int a)) (.F (.int b)))=some (.nx (eS r c l (c8++[o3 a b o4 l]) (.F (.int a)) (.F (.int b)))):=λc8 h'=>ky rfl rfl (by lia);have p2:∀c8:SV,c8.length<16000->gE 2 (aP (aa au (aa aQ (aa (fC (.str "down")) (aa ah fNil))))) (eS r c l c8 (.F (.int a)) (.F (.int b)))=some (.nx (eS r c l (c8++[o3 a b sDn l]) (.F (.int a)) (.F (.int b)))):=λc8 h'=>ky rfl rfl (by lia);have t1:∀c8:SV,fB (ai leI (ai addI aQ ah) (ai ay aj SZ)) (eS r c l c8 (.F (.int a)) (.F (.int b)))=some (decide (b+l<=c)):=λ_=>rfl;have t2:∀c8:SV,rh (fB (ai leI (ai addI au ah) (ai ay aj SY))) (fB (ai gtI ah SZ)) (eS r c l c8 (.F (.int a)) (.F (.int b)))=some (decide (a+l<=r)&&decide (1<l)):=λc8=>
  Am (show _=some (decide (a+l<=r))from rfl) λ_=>(show _=some (decide (1<l))from rfl)
 have EH:∀c8:SV,c8.length<16000->(gu (rh (fB (ai leI (ai addI au ah) (ai ay aj SY))) (fB (ai gtI ah SZ))) (gE 2 (aP (aa au (aa aQ (aa (fC (.str "down")) (aa ah fNil)))))) nxF) (eS r c l c8 (.F (.int a)) (.F (.int b)))=some (.nx (eS r c l (c8++(if a+l<=r/\1<l then [o3 a b sDn l]else [])) (.F (.int a)) (.F (.int b)))):=λc8 h'=>by
  by_cases hh:a+l<=r/\1<l
  .rw[k_ hh];exact(cf ((t2 c8).trans (by rw[v_ hh.1,v_ hh.2];rfl))).trans (p2 c8 h')
  .rw[l_ hh,O9];refine(be ((t2 c8).trans ?_)).trans rfl;congr 1;rw[Q5];intro e;simp only[A_,w_]at e;exact hh e
 show aD _ _ _=_;show _=some (Out.nx (eS r c l (acc++((if b+l<=c then [o3 a b o4 l]else [])++(if a+l<=r/\1<l then [o3 a b sDn l]else []))) (.F (.int a)) (.F (.int b))));rw[<- Po]
 by_cases h1:b+l<=c
 .rw[k_ h1];exact(ak ((cf ((t1 acc).trans (by rw[v_ h1]))).trans (p1 acc (by lia)))).trans (EH _ (by simp;lia))
 .rw[l_ h1,O9];exact(ak ((be ((t1 acc).trans (by rw[Ot h1]))).trans rfl)).trans (EH _ (by lia))
def FI(r c l:Int)(R C:Nat):SV:=(aI 0 R).flatMap λx=>(aI 0 C).flatMap λy=>gS r c l x y
theorem zj(R C:Nat)(hR:R<=60)(hC:C<=60)(l:Int):m__law_ships [.tup [.int R,.int C],.int l]=some (.lst (FI R C l R C)):=by
 have inner:∀(a:Nat)(acc:SV)(s4:Slot),acc.length+2*C<=8000->∃NU,cR (eS R C l acc (.F (.int a)) s4)=some (.nx (eS R C l (acc++(aI 0 C).flatMap λy=>gS R C l (.int a) y) (.F (.int a)) NU)):=λa acc s4 hl=>by
  obtain⟨e2,h1,s,h2⟩:=gR (t:=bZ 4) (body:=eg) (λacc e=>∃s,e=eS R C l acc (.F (.int a)) s) (λy=>gS R C l (.int a) y) 2 8000 (aI 0 C) acc (eS R C l acc (.F (.int a)) s4) ⟨_,rfl⟩ (by rw[eD];lia) λd hd=>⟨yp ..,λc8 e ⟨s,he⟩ hl'=>by
   subst he;obtain⟨i,hi,rfl⟩:=jb.mp hd;exact⟨_,wB R C l a i c8 (by lia),_,rfl⟩⟩
  subst h2;refine⟨s,?_⟩;unfold cR;have hi:ai ay aj SZ (eS R C l acc (.F (.int a)) s4)=some (.int (C:Int)):=rfl;rw[cF (dB hi (by lia))];exact h1
 have MN:([]:SV).length+2*C*(aI 0 R).length<=8000:=by
  have h1:=Q6 (Q6 (h_ 2) hC) hR;rw[eD,Pr,Oy];exact C_ h1 (by decide)
 obtain⟨e2,h1,s3,s4,h2⟩:=gR (t:=bZ 3) (body:=cR) (λacc e=>∃s3 s4,e=eS R C l acc s3 s4) (λx=>(aI 0 C).flatMap λy=>gS R C l x y) (2*C) 8000 (aI 0 R) [] (eS R C l [] .un .un) ⟨_,_,rfl⟩ MN λd hd=>⟨by have:=rX (g:=λy=>gS R C l d y) (B:=2) (aI 0 C) (λy _=>yp ..);rw[eD]at this;exact this,λc8 e ⟨s3,s4,he⟩ hl'=>by
   subst he;obtain⟨i,hi,rfl⟩:=jb.mp hd;obtain⟨NU,h⟩:=inner i c8 s4 hl';exact⟨_,fM (e0:=eS R C l c8 (.F (.int i)) s4) rfl h,_,_,rfl⟩⟩
 subst h2;exact aV ((ak (gP rfl)).trans ((ak ((cF (dB (n:=R) rfl (by lia))).trans h1)).trans rfl))
def atS(R C l a b:Nat):List Sh:=(if(b:Int)+l<=C then [⟨a,b,false,l⟩]else [])++(if(a:Int)+l<=R/\1<l then [⟨a,b,true,l⟩]else [])
def ei(R C l:Nat):List Sh:=(List.range R).flatMap λa=>(List.range C).flatMap λb=>atS R C l a b
theorem Jn(R C l a b:Nat):gS R C l (.int a) (.int b)=(atS R C l a b).map Sh.d:=by
 show(if(b:Int)+l<=C then [o3 a b o4 l]else [])++(if(a:Int)+l<=R/\(1:Int)<l then [o3 a b sDn l]else [])=_;unfold atS;rw[OB];congr 1
 .split<;>rfl
 .by_cases h:(a:Int)+l<=R/\1<l
  .rw[k_ h,k_ ⟨h.1,by lia⟩];rfl
  .rw[l_ h,l_ (λz=>h ⟨z.1,by lia⟩)];rfl
theorem Cw(R C l:Nat):FI R C l R C=(ei R C l).map Sh.d:=by
 unfold FI ei;rw[sL,PC];congr 1;funext a;rw[sL,PC];congr 1;funext b;exact Jn R C l a b
theorem Dt(h:s∈atS R C l a b):s.a=a/\s.b=b/\s.n=l/\(s.dn=false->(b:Int)+l<=C)/\(s.dn=true->(a:Int)+l<=R/\1<l):=by
 unfold atS at h;rcases Oz.mp h with h | h
 .split at h
  .rename_i hc;cases u_.mp h;exact⟨rfl,rfl,rfl,λ_=>hc,λz=>by cases z⟩
  .cases h
 .split at h
  .rename_i hc;cases u_.mp h;exact⟨rfl,rfl,rfl,λz=>(by cases z),λ_=>hc⟩
  .cases h
theorem jR:s∈ei R C l↔(∃a b:Nat,s.a=a/\s.b=b/\a<R/\b<C)/\s.n=l/\(s.dn=false->s.b+l<=C)/\(s.dn=true->s.a+l<=R/\1<l):=by
 unfold ei;simp only[PF,Ov];constructor
 .rintro⟨a,ha,b,hb,h⟩;obtain⟨h1,h2,h3,h4,h5⟩:=Dt h;rw[h1,h2];exact⟨⟨a,b,rfl,rfl,ha,hb⟩,h3,h4,h5⟩
 .rintro⟨⟨a,b,h1,h2,ha,hb⟩,h3,h4,h5⟩;refine⟨a,ha,b,hb,?_⟩;obtain⟨sa,sb,dn,n⟩:=s;simp only at h1 h2 h3 h4 h5;subst h1 h2 h3;unfold atS;cases dn
  .rw[k_ (h4 rfl)];simp
  .rw[k_ (h5 rfl)];simp
theorem CJ(R C l a b:Nat):(atS R C l a b).length<=2:=by
 unfold atS;rw[t_];split<;>split<;>simp
theorem k6{α β:Type}{g:α->List β}{B:Nat}:∀(ds:List α),(∀d∈ds,(g d).length<=B)->(ds.flatMap g).length<=B*ds.length
 | [],_=>by simp
 | d::ds,h=>by
  rw[O7,t_,H_,R_];have:=h d j_;have:=k6 ds λx hx=>h x (i_ _ hx)
  lia
theorem wM(R C l:Nat):(ei R C l).length<=2*C*R:=by
 have h:=k6 (g:=λa=>(List.range C).flatMap λb=>atS R C l a b) (B:=2*C) (List.range R) λa _=>by
  have:=k6 (g:=λb=>atS R C l a b) (B:=2) (List.range C) (λb _=>CJ ..);rwa [Pi]at this
 rwa [Pi]at h
theorem wF(R C:Nat)(hR:R<=60)(hC:C<=60)(l:Nat):m__law_ships [.tup [.int R,.int C],.int l]=some (.lst ((ei R C l).map Sh.d)):=by
 rw[zj R C hR hC l,Cw]
def Sh.ks(s:Sh):List L2.Key:=[.inl s.a,.inl s.b,.inr s.w,.inl s.n]
def Bh(s t:Sh):Prop:=s.a<t.a\/(s.a=t.a/\(s.b<t.b\/(s.b=t.b/\((s.dn=false/\t.dn=true)\/(s.dn=t.dn/\s.n<t.n)))))
theorem Lo:Bj (.inr o4) (.inr sDn)=some true:=by
 show some (decide (o4.cps.toList<sDn.cps.toList))=_;rw[show decide (o4.cps.toList<sDn.cps.toList)=true by decide +kernel]
theorem Lb:Bj (.inr sDn) (.inr o4)=some false:=by
 show some (decide (sDn.cps.toList<o4.cps.toList))=_;rw[show decide (sDn.cps.toList<o4.cps.toList)=false by decide +kernel]
theorem Np:(Sum.inr o4:L2.Key)≠.inr sDn:=λh=>absurd (Sum.inr.inj h) (by decide)
theorem lj(x y:L2.Key)(xs ys:List L2.Key):dP (x::xs) (y::ys)=if x=y then dP xs ys else Bj x y:=rfl
theorem r8(n n':Nat):dP [.inl (n:Int)] [.inl (n':Int)]=some (decide (n<n')):=by
 rw[lj]
 by_cases h3:n=n'
 .subst h3;rw[k_ rfl];simp[dP]
 .rw[l_ (λz=>h3 (by have:=Sum.inl.inj z;lia))];show some (decide ((n:Int)<n'))=_;simp
theorem Dc(a b a' b':Int)(xs ys:List L2.Key)(q:Bool)(h:dP xs ys=some q):∃r,dP (.inl a::.inl b::xs) (.inl a'::.inl b'::ys)=some r/\(r=true↔a<a'\/(a=a'/\(b<b'\/(b=b'/\q=true)))):=by
 rw[lj]
 by_cases h1:a=a'
 .subst h1;rw[k_ rfl,lj]
  by_cases h2:b=b'
  .subst h2;rw[k_ rfl];exact⟨q,h,by simp⟩
  .rw[l_ (λz=>h2 (Sum.inl.inj z))];refine⟨decide (b<b'),rfl,?_⟩;rw[w_];constructor
   .intro h;exact .inr ⟨rfl,.inl h⟩
   .rintro(h | ⟨_,h | ⟨h,_⟩⟩)
    .lia
    .exact h
    .exact absurd h h2
 .rw[l_ (λz=>h1 (Sum.inl.inj z))];refine⟨decide (a<a'),rfl,?_⟩;rw[w_];constructor
  .intro h;exact .inl h
  .rintro(h | ⟨h,_⟩)
   .exact h
   .exact absurd h h1
theorem IS(x y:Bool)(n n':Nat):∃q,dP [.inr (if x=true then sDn else o4),.inl (n:Int)] [.inr (if y=true then sDn else o4),.inl (n':Int)]=some q/\(q=true↔(x=false/\y=true)\/(x=y/\n<n')):=by
 cases x<;>cases y
 .exact⟨decide (n<n'),(by rw[lj,k_ rfl,r8]),by simp⟩
 .exact⟨true,(by show dP [.inr o4,_] [.inr sDn,_]=_;rw[lj,l_ Np];exact Lo),by simp⟩
 .exact⟨false,(by show dP [.inr sDn,_] [.inr o4,_]=_;rw[lj,l_ (Pw Np)];exact Lb),by simp⟩
 .exact⟨decide (n<n'),(by rw[lj,k_ rfl,r8]),by simp⟩
theorem FX(s t:Sh):∃q,dP s.ks t.ks=some q/\(q=true↔Bh s t):=by
 obtain⟨q,h1,h2⟩:=IS s.dn t.dn s.n t.n;obtain⟨r,h3,h4⟩:=Dc s.a s.b t.a t.b _ _ q h1;exact⟨r,h3,by rw[h4,h2];rfl⟩
theorem mR:∀(ps:So),jY (ps.map cel)=some (ps.map eh)
 | []=>rfl
 | p::ps=>by
  show(mV [.int p.1,.int p.2]).bind (λks=>(jY (ps.map cel)).bind λkss=>some (ks::kss))=_;rw[mR ps];rfl
def Sh.rz(s:Sh):Int:=if s.dn=true then s.a+s.n-1 else s.a
def Sh.cz(s:Sh):Int:=if s.dn=true then s.b else s.b+s.n-1
theorem mx{s:Sh}(hn:1<=s.n)(p:SA):p∈s.cs↔s.a<=p.1/\p.1<=s.rz/\s.b<=p.2/\p.2<=s.cz:=by
 obtain⟨a,b,dn,n⟩:=s;obtain⟨x,y⟩:=p;unfold Sh.cs Sh.rz Sh.cz Sh.at;simp only[x_,Ov];simp only at hn;cases dn
 .simp only[z_,OS,Qe];constructor
  .rintro⟨i,hi,rfl,rfl⟩;lia
  .rintro⟨h1,h2,h3,h4⟩;exact⟨(y-b).toNat,by lia,by lia,by lia⟩
 .simp only[PV,Qe];constructor
  .rintro⟨i,hi,rfl,rfl⟩;lia
  .rintro⟨h1,h2,h3,h4⟩;exact⟨(x-a).toNat,by lia,by lia,by lia⟩
def CD(i j k:Int):Int:=if j>i then(if k>j then k else j)else(if k>i then k else i)
def wK(s t:Sh):Int:=CD (t.a-s.rz) (s.a-t.rz) 0
def xj(s t:Sh):Int:=CD (t.b-s.cz) (s.b-t.cz) 0
def sv(r:Str)(s t:Sh):Bool:=if r=HB then decide (0<wK s t+xj s t)else if r=Hz then decide (1<wK s t+xj s t)else decide (1<(if xj s t>wK s t then xj s t else wK s t))
theorem Sh.rz_ge{s:Sh}(h:1<=s.n):s.a<=s.rz:=by unfold Sh.rz;split<;>lia
theorem Sh.cz_ge{s:Sh}(h:1<=s.n):s.b<=s.cz:=by unfold Sh.cz;split<;>lia
theorem Iu(h1:a<=p)(h2:p<=z)(h3:b<=p+d)(h4:p+d<=y):b<=z+d/\a+d<=(y:Int):=by lia
theorem HN{a z b y d:Int}(h1:a<=z)(h2:b<=y)(h3:b<=z+d)(h4:a+d<=y):∃x,(b<=x/\x<=y)/\a<=x-d/\x-d<=z:=by
 by_cases h:a+d<=b
 .exact⟨b,by lia,by lia⟩
 .exact⟨a+d,by lia,by lia⟩
theorem oK{s t:Sh}(hs:1<=s.n)(ht:1<=t.n)(d:SA):(∃q∈t.cs,∃p∈s.cs,q=plus p d)↔t.a<=s.rz+d.1/\s.a+d.1<=t.rz/\t.b<=s.cz+d.2/\s.b+d.2<=t.cz:=by
 constructor
 .rintro⟨q,hq,p,hp,rfl⟩;rw[mx ht]at hq;rw[mx hs]at hp;have r:=Iu hp.1 hp.2.1 hq.1 hq.2.1;have c:=Iu hp.2.2.1 hp.2.2.2 hq.2.2.1 hq.2.2.2;exact⟨r.1,r.2,c⟩
 .rintro⟨h1,h2,h3,h4⟩;obtain⟨x,⟨x1,x2⟩,x3,x4⟩:=HN (Sh.rz_ge hs) (Sh.rz_ge ht) h1 h2;obtain⟨y,⟨y1,y2⟩,y3,y4⟩:=HN (Sh.cz_ge hs) (Sh.cz_ge ht) h3 h4;refine⟨(x,y),(mx ht _).mpr ⟨x1,x2,y1,y2⟩,(x-d.1,y-d.2),(mx hs _).mpr ⟨x3,x4,y3,y4⟩,?_⟩;unfold plus;simp only;rw[Int.sub_add_cancel,Int.sub_add_cancel]
theorem uZ(h1:a<=z)(h2:b<=y)(hu:0<=u/\b-z<=u/\a-y<=u/\(u=0\/u=b-z\/u=a-y)) :
  ((b<=z+0/\a+0<=y)↔u=0)/\((b<=z+0/\a+0<=y)\/(b<=z+1/\a+1<=y)\/(b<=z+-1/\a+-1<=y)↔u<=1):=by
 refine⟨by lia,?_,λ_=>?_⟩
 .rintro(⟨_,_⟩ | ⟨_,_⟩ | ⟨_,_⟩)<;>lia
 .by_cases e:u=0
  .exact .inl (by lia)
  .by_cases e2:u=b-z
   .exact .inr (.inl (by lia))
   .exact .inr (.inr (by lia))
theorem N6:((p/\a)\/(p/\b)\/(q/\a)\/(p/\c)\/(r/\a))↔(p/\(a\/b\/c))\/((p\/q\/r)/\a):=by
 constructor
 .rintro(⟨h,g⟩ | ⟨h,g⟩ | ⟨h,g⟩ | ⟨h,g⟩ | ⟨h,g⟩)<;>simp[h,g]
 .rintro(⟨h,g | g | g⟩ | ⟨h | h | h,g⟩)<;>simp[h,g]
theorem Oq:((p/\a)\/(p/\b)\/(q/\a)\/(p/\c)\/(r/\a)\/(q/\b)\/(q/\c)\/(r/\b)\/(r/\c))↔(p\/q\/r)/\(a\/b\/c):=by
 constructor
 .rintro(⟨h,g⟩ | ⟨h,g⟩ | ⟨h,g⟩ | ⟨h,g⟩ | ⟨h,g⟩ | ⟨h,g⟩ | ⟨h,g⟩ | ⟨h,g⟩ | ⟨h,g⟩)<;>simp[h,g]
 .rintro⟨h | h | h,g | g | g⟩<;>simp[h,g]
theorem kU(x y:Int):0<=CD x y 0/\x<=CD x y 0/\y<=CD x y 0/\(CD x y 0=0\/CD x y 0=x\/CD x y 0=y):=by
 unfold CD;split<;>split<;>lia
theorem rl{r:Str}(hr:ef r){s t:Sh}(hs:1<=s.n)(ht:1<=t.n):sv r s t=true↔¬∃q∈t.cs,∃p∈s.cs,∃d∈steps r,q=plus p d:=by
 have sw:(∃q∈t.cs,∃p∈s.cs,∃d∈steps r,q=plus p d)↔∃d∈steps r,(t.a<=s.rz+d.1/\s.a+d.1<=t.rz)/\t.b<=s.cz+d.2/\s.b+d.2<=t.cz:=by
  constructor
  .rintro⟨q,hq,p,hp,d,hd,e⟩;exact⟨d,hd,and_assoc.mpr ((oK hs ht d).mp ⟨q,hq,p,hp,e⟩)⟩
  .rintro⟨d,hd,h⟩;obtain⟨q,hq,p,hp,e⟩:=(oK hs ht d).mpr (and_assoc.mp h);exact⟨q,hq,p,hp,d,hd,e⟩
 obtain⟨r0,r1⟩:=uZ (u:=wK s t) (Sh.rz_ge hs) (Sh.rz_ge ht) (kU (t.a-s.rz) (s.a-t.rz));obtain⟨c0,c1⟩:=uZ (u:=xj s t) (Sh.cz_ge hs) (Sh.cz_ge ht) (kU (t.b-s.cz) (s.b-t.cz));have n1:0<=wK s t:=(kU (t.a-s.rz) (s.a-t.rz)).1;have n2:0<=xj s t:=(kU (t.b-s.cz) (s.b-t.cz)).1;rw[sw];unfold sv;rcases hr with rfl | rfl | rfl
 .rw[k_ rfl,lF,w_];simp only[u_,Si];rw[r0,c0];clear r0 r1 c0 c1 sw
  lia
 .rw[l_ (by decide),k_ rfl,lG,w_];simp only[s_,OR,P_,exists_eq_or_imp,Si];rw[N6,r1,c1,r0,c0];clear r0 r1 c0 c1 sw
  lia
 .rw[l_ (by decide),l_ (by decide),lZ,w_];simp only[s_,OR,P_,exists_eq_or_imp,Si];rw[Oq,r1,c1];clear r0 r1 c0 c1 sw
  split<;>lia
def Fm:D->D->D
 | .int a,.int b=>cel (a,b)
 | _,_=>.non
theorem kc(I:En->Prop)(p:D->Bool)(x:D):∀(ds:SV)(env:En),I env->(∀d∈ds,∀e,I e->(p d=true->∃e1,(t d e).bind body=some (.nx e1)/\I e1)/\(p d=false->(t d e).bind body=some (.rt x)))->
  (ds.all p=true->∃e2,dH t body ds env=some (.nx e2)/\I e2)/\(ds.all p=false->dH t body ds env=some (.rt x))
 | [],env,h,_=>⟨λ_=>⟨env,rfl,h⟩,λh=>by cases h⟩
 | d::ds,env,h,hb=>by
  obtain⟨h1,h2⟩:=hb d j_ env h;cases hp:p d with
  | true=>
   obtain⟨e1,h3,h4⟩:=h1 hp;obtain⟨e0,h5,h6⟩:=b_.mp h3;have hh:dH t body (d::ds) env=dH t body ds e1:=by
    show(t d env).bind (λe1=>(body e1).bind _)=_;rw[h5];show(body e0).bind _=_;rw[h6]
    rfl
   rw[hh,List.all_cons,hp,Re];exact kc I p x ds e1 h4 λd' hd=>hb d' (i_ _ hd)
  | false=>
   obtain⟨e0,h5,h6⟩:=b_.mp (h2 hp);rw[List.all_cons,hp,Sg];refine⟨λh=>(by cases h),λ_=>?_⟩;show(t d env).bind (λe1=>(body e1).bind _)=_;rw[h5];show(body e0).bind _=_;rw[h6]
   rfl
noncomputable def iK(ru:Str)(s:Sh):So:=match m__law_halo [.str ru,s.d]with | some d=>FH d | _=>[]
theorem uk(s:Sh)(hn:s.n<=1000)(ru:Str)(hr:ef ru):m__law_halo [.str ru,s.d]=some (cP (iK ru s))/\∀q,q∈iK ru s↔∃p∈s.cs,∃t∈steps ru,q=plus p t:=by
 obtain⟨ks,h1,h2⟩:=BS s hn ru hr;have:iK ru s=ks:=by unfold iK;rw[h1];exact uy ks
 rw[this];exact⟨h1,h2⟩
theorem zP(s0:Slot)(cs:So)(ks:So)(s3:Slot):(cs.all (λp=>!decide (p∈ks))=true->∃yn,c9 [s0,.F (.lst (cs.map cel)),.F (cP ks),s3]=some (.nx [s0,.F (.lst (cs.map cel)),.F (cP ks),yn]))/\(cs.all (λp=>!decide (p∈ks))=false->c9 [s0,.F (.lst (cs.map cel)),.F (cP ks),s3]=some (.rt (.bl false))):=by
 have hh:=kc (t:=bZ 3) (body:=iL) (λe=>∃s3,e=[s0,.F (.lst (cs.map cel)),.F (cP ks),s3]) (λd=>match d with | .tup [.int a,.int b]=>!decide ((a,b)∈ks) | _=>true) (.bl false) (cs.map cel) _ ⟨s3,rfl⟩ λd hd e aG=>by
  obtain⟨s3,he⟩:=aG;subst he;obtain⟨q,hq,rfl⟩:=x_.mp hd;have ht:fB (ai (DS Th.h false) au aw) [s0,.F (.lst (cs.map cel)),.F (cP ks),.F (cel q)]=some (decide (q∈ks)):=dO (by
   show(HA Th.h (cP ks)).bind _=_;unfold cP;rw[Em];show some (D.bl (decide (eh q∈ks.map eh)))=_;congr 2;rw[OM,w_,w_];exact fA)
  constructor
  .intro h;have h:decide (q∈ks)=false:=by simpa [cel]using h
   exact⟨_,fM (e0:=[s0,.F (.lst (cs.map cel)),.F (cP ks),.F (cel q)]) rfl ((be (ht.trans (by rw[h]))).trans rfl),_,rfl⟩
  .intro h;have h:decide (q∈ks)=true:=by simpa [cel]using h
   exact fM (e0:=[s0,.F (.lst (cs.map cel)),.F (cP ks),.F (cel q)]) rfl ((cf (ht.trans (by rw[h]))).trans rfl)
 rw[Sb]at hh;refine⟨λh=>?_,λh=>(cF (cm rfl)).trans (hh.2 h)⟩;obtain⟨e2,g1,yn,rfl⟩:=hh.1 h;exact⟨yn,(cF (cm rfl)).trans g1⟩
theorem lb(hs:List So)(cs:So):m__law_free [.lst (hs.map cP),.lst (cs.map cel)]=some (.bl (hs.all λks=>cs.all λp=>!decide (p∈ks))):=by
 have hh:=kc (t:=bZ 2) (body:=c9) (λe=>∃s2 s3,e=[.F (.lst (hs.map cP)),.F (.lst (cs.map cel)),s2,s3]) (λd=>cs.all λp=>!decide (p∈FH d)) (.bl false) (hs.map cP) [.F (.lst (hs.map cP)),.F (.lst (cs.map cel)),.un,.un] ⟨.un,.un,rfl⟩ λd hd e aG=>by
  obtain⟨s2,s3,he⟩:=aG;subst he;obtain⟨ks,J7,rfl⟩:=x_.mp hd;obtain⟨g1,g2⟩:=zP (.F (.lst (hs.map cP))) cs ks s3;simp only[uy];refine⟨λh=>?_,λh=>fM (e0:=[.F (.lst (hs.map cP)),.F (.lst (cs.map cel)),.F (cP ks),s3]) rfl (g2 h)⟩;obtain⟨yn,g⟩:=g1 h;exact⟨_,fM (e0:=[.F (.lst (hs.map cP)),.F (.lst (cs.map cel)),.F (cP ks),s3]) rfl g,_,_,rfl⟩
 rw[Sb]at hh;simp only[RT,uy]at hh;cases hb:(hs.all λks=>cs.all λp=>!decide (p∈ks))with
 | true=>
  obtain⟨e2,g1,s2,s3,rfl⟩:=hh.1 hb;exact aV ((ak ((cF (cm rfl)).trans g1)).trans rfl)
 | false=>exact aV (ec ((cF (cm rfl)).trans (hh.2 hb)))
theorem xZ(hr:ef ru)(h:List Sh)(hh:∀t∈h,1<=t.n/\t.n<=1000)(s:Sh)(hs:1<=s.n):m__law_free [.lst (h.map λt=>cP (iK ru t)),.lst (s.cs.map cel)]=some (.bl (h.all λt=>sv ru t s)):=by
 have e:=lb (h.map (iK ru)) s.cs;rw[OA]at e;refine Eq.trans e ?_;congr 2;rw[Sb,OM,I_,I_];refine forall_congr' λt=>forall_congr' λht=>?_;obtain⟨h1,h2⟩:=hh t ht;rw[rl hr h1 hs];simp only[Rv,I_,Bool.not_eq_true',decide_eq_false_iff_not];constructor
 .rintro hq ⟨q,MO,p,hp,d,hd,e⟩;exact hq q MO (((uk t h2 ru hr).2 q).mpr ⟨p,hp,d,hd,e⟩)
 .intro hq q MO hq2;obtain⟨p,hp,d,hd,e⟩:=((uk t h2 ru hr).2 q).mp hq2;exact hq ⟨q,MO,p,hp,d,hd,e⟩
instance (s t:Sh):Decidable (Bh s t):=by unfold Bh;infer_instance
def jr(fl:Sy):D:=.tup (fl.map λ(n:Nat)=>.int n)
def aC(h:List Sh):D:=.tup (h.map Sh.d)
noncomputable def gv(ru:Str)(h:List Sh):D:=.tup [aC h,.lst (h.map λs=>cP (iK ru s))]
def rS(fl:Sy)(j:Nat)(h:List Sh)(s:Sh):Bool:=decide (j=0)||(!decide (fl.getD (j-1) 0=fl.getD j 0)||(match h.getLast? with | some u=>decide (Bh u s) | none=>true))
def okN(ru:Str)(fl:Sy)(j:Nat)(h:List Sh)(s:Sh):Bool:=rS fl j h s&&h.all λt=>sv ru t s
def iJ(R C:Nat)(ru:Str)(fl:Sy)(j:Nat)(rows:List (List Sh)):List (List Sh):=rows.flatMap λh=>((ei R C (fl.getD j 0)).filter (okN ru fl j h)).map λs=>h++[s]
def eR(R C:Nat)(ru:Str)(fl:Sy):Nat->List (List Sh)
 | 0=>[[]]
 | j+1=>iJ R C ru fl j (eR R C ru fl j)
noncomputable abbrev eA(R C:Nat)(fl:Sy)(ru:Str)(rows:D)(pl ln:Nat)(ss:List Sh)(acc:SV)(gi eX dR nN:Slot):En:=
 [.F (.tup [.int R,.int C]),.F (jr fl),.F (.str ru),.F rows,.F (.int pl),.F (.int ln),.F (.lst (ss.map Sh.d)),.F (.lst (ss.map λs=>cP (iK ru s))),.F (.lst (ss.map λs=>.lst (s.cs.map cel))),.O (.L acc),gi,eX,dR,nN]
theorem qz(h:f env=some (.tup xs))(h2:g env=some (.tup ys))(hl:xs.length+ys.length<=16000000):ai l5 f g env=some (.tup (xs++ys)):=by
 rw[az h h2];show(if xs.length+ys.length<=16000000 then _ else _)=_;rw[k_ hl]
theorem Ie(s t:Sh):Jf s.d t.d=some (.bl (decide (Bh s t))):=by
 obtain⟨q,h1,h2⟩:=FX s t;show(dP s.ks t.ks).bind _=_;rw[h1,show decide (Bh s t)=q by cases q<;>simp_all];rfl
theorem all1(R C:Nat)(fl:Sy)(ru:Str)(hr:ef ru)(rows:D)(pl:Nat)(iO:pl<fl.length)(ss:List Sh)(acc:SV)(ha:acc.length<1000000)(h:List Sh)(hl:h.length=pl)(hh:∀t∈h,1<=t.n/\t.n<=1000)(NV:pl<=3)(nN:Slot)(k:Nat)(s:Sh)(hk:ss[k]?=some s)(hn:1<=s.n) :
  ∃eU:Slot,dJ (eA R C fl ru rows pl (fl.getD pl 0) ss acc (.F (aC h)) (.F (.lst (h.map λs=>cP (iK ru s)))) (.F (.int k)) nN)=some (.nx (eA R C fl ru rows pl (fl.getD pl 0) ss (acc++if okN ru fl pl h s=true then [gv ru (h++[s])]else []) (.F (aC h)) (.F (.lst (h.map λs=>cP (iK ru s)))) (.F (.int k)) eU)):=by
 have hb:=xZ hr h hh s hn;have hq:(GN (ai cy aQ SY) (GN (ai vg (ai ay ah (ai subI aQ SZ)) cX) (ai Jf (ai ay bS (bc gw SZ)) (ai ay bw cG)))) (eA R C fl ru rows pl (fl.getD pl 0) ss acc (.F (aC h)) (.F (.lst (h.map λs=>cP (iK ru s)))) (.F (.int k)) nN)=some (.bl (rS fl pl h s)):=by
  cases pl with
  | zero=>exact FM (p:=true) (q:=true) rfl (λh=>by cases h)
  | succ m=>
   have hx:fl[m]?=some (fl.getD m 0):=by rw[g_,f_ (by lia)];rfl
   have i1:ai ay ah (ai subI aQ SZ) (eA R C fl ru rows (m+1) (fl.getD (m+1) 0) ss acc (.F (aC h)) (.F (.lst (h.map λs=>cP (iK ru s)))) (.F (.int k)) nN)=some (.int ((fl.getD m 0:Nat):Int)):=by
    refine bO (i:=(m:Int)) rfl ?_ (dh (by rw[m_,hx];rfl));show some (D.int (((m+1:Nat):Int)-1))=_;rw[show((m+1:Nat):Int)-1=(m:Int) by lia]
   obtain⟨h0,u,hu⟩:∃h0 u,h=h0++[u]:=by
    have hne:h≠[]:=λe=>by rw[e]at hl;cases hl
    exact⟨h.dropLast,h.getLast hne,(Qc hne).symm⟩
   have i2:ai ay bS (bc gw SZ) (eA R C fl ru rows (m+1) (fl.getD (m+1) 0) ss acc (.F (aC h)) (.F (.lst (h.map λs=>cP (iK ru s)))) (.F (.int k)) nN)=some u.d:=by
    refine bO (ds:=h.map Sh.d) (i:=-1) rfl rfl ?_;rw[hu,OB];exact L2.my _ _
   have i3:ai ay bw cG (eA R C fl ru rows (m+1) (fl.getD (m+1) 0) ss acc (.F (aC h)) (.F (.lst (h.map λs=>cP (iK ru s)))) (.F (.int k)) nN)=some s.d:=ez (i:=(k:Int)) rfl rfl (dh (by rw[m_,hk];rfl));have:=FM (p:=((m+1:Nat):Int)==0) (f:=ai cy aQ SY) (env:=eA R C fl ru rows (m+1) (fl.getD (m+1) 0) ss acc (.F (aC h)) (.F (.lst (h.map λs=>cP (iK ru s)))) (.F (.int k)) nN) rfl λ_=>FM (p:=!(((fl.getD m 0:Nat):Int)==((fl.getD (m+1) 0:Nat):Int))) ((az (g:=λenv=>bf env 5) i1 rfl).trans (LC _ _)) λ_=>(az i2 i3).trans (Ie u s);rw[this];congr 2;unfold rS;rw[hu,List.getLast?_append];have e1:(((m+1:Nat):Int)==0)=decide (m+1=0):=by rw[OM];simp;lia
   have e2:(((fl.getD m 0:Nat):Int)==((fl.getD (m+1) 0:Nat):Int))=decide (fl.getD (m+1-1) 0=fl.getD (m+1) 0):=by rw[OM,R9,w_,Nat.add_sub_cancel];lia
   rw[e1,e2];rfl
 unfold dJ;have i6:∀eU:Slot,ai ay bw cG (eA R C fl ru rows pl (fl.getD pl 0) ss acc (.F (aC h)) (.F (.lst (h.map λs=>cP (iK ru s)))) (.F (.int k)) eU)=some s.d:=λ_=>ez (i:=(k:Int)) rfl rfl (dh (by rw[m_,hk];rfl));have i7:∀eU:Slot,ai ay jv cG (eA R C fl ru rows pl (fl.getD pl 0) ss acc (.F (aC h)) (.F (.lst (h.map λs=>cP (iK ru s)))) (.F (.int k)) eU)=some (cP (iK ru s)):=λ_=>ez (i:=(k:Int)) rfl rfl (dh (by rw[m_,hk];rfl));have i8:∀eU:Slot,ai ay ko cG (eA R C fl ru rows pl (fl.getD pl 0) ss acc (.F (aC h)) (.F (.lst (h.map λs=>cP (iK ru s)))) (.F (.int k)) eU)=some (.lst (s.cs.map cel)):=λ_=>ez (i:=(k:Int)) rfl rfl (dh (by rw[m_,hk];rfl));have ht:rh (fB y7) (fB (λenv=>((aa l8 (aa (ai ay ko cG) fNil)) env).bind m__law_free)) (eA R C fl ru rows pl (fl.getD pl 0) ss acc (.F (aC h)) (.F (.lst (h.map λs=>cP (iK ru s)))) (.F (.int k)) (.F (.bl (rS fl pl h s))))=some (okN ru fl pl h s):=Am (dO rfl) λ_=>dO ((call_v (af rfl (af (i8 _) aE))).trans hb);refine⟨.F (.bl (rS fl pl h s)),(ak (aS hq)).trans ?_⟩;cases hqb:okN ru fl pl h s with
 | true=>
  rw[hqb]at ht;rw[k_ rfl];refine(cf ht).trans ?_;refine ky (d:=gv ru (h++[s])) rfl (cu (af ?_ (af ?_ aE))) (by lia)
  .have:=qz (f:=λenv=>bf env 10) (g:=aP (aa (ai ay bw cG) fNil)) (env:=eA R C fl ru rows pl (fl.getD pl 0) ss acc (.F (aC h)) (.F (.lst (h.map λs=>cP (iK ru s)))) (.F (.int k)) (.F (.bl (rS fl pl h s)))) (xs:=h.map Sh.d) (ys:=[s.d]) rfl (cu (af (i6 _) aE)) (by rw[c_,hl];simp;lia);exact this.trans (by unfold aC;rw[OB];rfl)
  .have:=tK (f:=λenv=>bf env 11) (g:=bN (aa (ai ay jv cG) fNil)) (env:=eA R C fl ru rows pl (fl.getD pl 0) ss acc (.F (aC h)) (.F (.lst (h.map λs=>cP (iK ru s)))) (.F (.int k)) (.F (.bl (rS fl pl h s)))) (xs:=h.map λs=>cP (iK ru s)) (ys:=[cP (iK ru s)]) rfl (oe (af (i7 _) aE)) (by rw[c_,hl];simp;lia);exact this.trans (by rw[OB];rfl)
 | false=>
  rw[hqb]at ht;rw[l_ (by simp),O9];exact(be ht).trans rfl
theorem jU(f:α->D)(I:SV->En->Prop)(g:α->SV)(B M:Nat):∀(xs:List α)(acc:SV)(env:En),I acc env->acc.length+B*xs.length<=M->(∀x∈xs,(g x).length<=B/\∀acc e,I acc e->acc.length+B<=M->∃e1,(t (f x) e).bind body=some (.nx e1)/\I (acc++g x) e1)->∃e2,dH t body (xs.map f) env=some (.nx e2)/\I (acc++xs.flatMap g) e2
 | [],acc,env,h,_,_=>⟨env,rfl,by rw[List.flatMap_nil,O9];exact h⟩
 | x::xs,acc,env,h,hl,hb=>by
  obtain⟨h1,h2⟩:=hb x j_;rw[H_,R_]at hl;obtain⟨e1,h3,h4⟩:=h2 acc env h (by lia);obtain⟨e0,h5,h6⟩:=b_.mp h3;have hh:dH t body ((x::xs).map f) env=dH t body (xs.map f) e1:=by
   show(t (f x) env).bind (λe1=>(body e1).bind _)=_;rw[h5];show(body e0).bind _=_;rw[h6]
   rfl
  obtain⟨e2,h7,h8⟩:=jU f I g B M xs (acc++g x) e1 h4 (by rw[t_];lia) λy hy=>hb y (i_ _ hy);refine⟨e2,hh.trans h7,?_⟩;rw[O7,<- Po];exact h8
theorem Gv(n:Nat):aI 0 n=(List.range n).map λ(i:Nat)=>D.int i:=by
 have:=uY (g:=id) n;rw[List.map_id]at this;exact this
theorem wD(l:List α)(G:Option α->List β):(List.range l.length).flatMap (λi=>G l[i]?)=l.flatMap λa=>G (some a):=by
 have:(List.range l.length).map (λi=>l[i]?)=l.map some:=by
  apply Q2;intro i;rw[m_,m_]
  by_cases h:i<l.length
  .rw[P2 h,f_ h];simp
  .rw[Ou (by simpa using h),Ou (by simpa using h)];rfl
 have h2:=OZ (λx=>x.flatMap G) this;simp only[RZ]at h2;exact h2
theorem vE(p:α->Bool)(G:α->β):∀(l:List α),(l.flatMap λa=>if p a=true then [G a]else [])=(l.filter p).map G
 | []=>rfl
 | a::l=>by
  rw[O7,P5,vE p G l]
  split<;>rfl
theorem all2(R C:Nat)(fl:Sy)(ru:Str)(hr:ef ru)(rows:D)(pl:Nat)(iO:pl<fl.length)(ss:List Sh)(acc:SV)(ha:acc.length<900000)(h:List Sh)(hl:h.length=pl)(hh:∀t∈h,1<=t.n/\t.n<=1000)(NV:pl<=3)(dR nN:Slot)(MP:ss.length<=40)(hn:∀s∈ss,1<=s.n) :
  ∃m4 eU:Slot,dQ (eA R C fl ru rows pl (fl.getD pl 0) ss acc (.F (aC h)) (.F (.lst (h.map λs=>cP (iK ru s)))) dR nN)=some (.nx (eA R C fl ru rows pl (fl.getD pl 0) ss (acc++((ss.filter (okN ru fl pl h)).map λs=>h++[s]).map (gv ru)) (.F (aC h)) (.F (.lst (h.map λs=>cP (iK ru s)))) m4 eU)):=by
 obtain⟨e2,h1,m4,eU,rfl⟩:=jU (t:=bZ 12) (body:=dJ) (λ(i:Nat)=>D.int i) (λacc e=>∃dR nN,e=eA R C fl ru rows pl (fl.getD pl 0) ss acc (.F (aC h)) (.F (.lst (h.map λs=>cP (iK ru s)))) dR nN) (λi=>match ss[i]? with | some s=>if okN ru fl pl h s=true then [gv ru (h++[s])]else [] | none=>[]) 1 950000 (List.range ss.length) acc _ ⟨dR,nN,rfl⟩ (by rw[Pi];lia) λi hi=>by
  have hi':=Ov.mp hi;have hk:ss[i]?=some ss[i]:=f_ hi';rw[hk];refine⟨by dsimp only;split<;>simp,λc8 e ⟨m4,eU,he⟩ hl'=>?_⟩;subst he;obtain⟨s13'',u⟩:=all1 R C fl ru hr rows pl iO ss c8 (by lia) h hl hh NV eU i ss[i] hk (hn _ (OL hi'));exact⟨_,fM (e0:=eA R C fl ru rows pl (fl.getD pl 0) ss c8 (.F (aC h)) (.F (.lst (h.map λs=>cP (iK ru s)))) (.F (.int i)) eU) rfl u,_,_,rfl⟩
 rw[wD ss (λo=>match o with | some s=>if okN ru fl pl h s=true then [gv ru (h++[s])]else [] | none=>[])]at h1;dsimp only at h1;rw[vE (okN ru fl pl h) (λs=>gv ru (h++[s])),<- Gv]at h1;refine⟨m4,eU,?_⟩;unfold dQ;rw[cF (dB (n:=ss.length) ((gA rfl).trans (by rw[c_])) (by lia)),h1,OA];rfl
theorem dg(f g:α->D):∀(xs:List α),(∀x∈xs,∃e1,t (f x) env=some e1/\k e1=some [g x])->iT t S3 k env (xs.map f)=some (xs.map g)
 | [],_=>rfl
 | x::xs,h=>by
  obtain⟨e1,h1,h3⟩:=h x j_;have i1:=dg f g xs λy hy=>h y (i_ _ hy);show iT _ _ _ _ (f x::xs.map f)=_;unfold iT;rw[h1];show(if true=true then k e1 else some []).bind _=_;rw[k_ rfl,h3];show(iT t S3 k env (xs.map f)).bind _=_;rw[i1];rfl
theorem sO(R C:Nat)(hR:R<=4)(hC:C<=5)(l:Nat):(ei R C l).length<=40:=by
 have h1:=wM R C l;have h2:=Q6 (Q6 (h_ 2) hC) hR
 lia
theorem qm(h:s∈ei R C l):s.n=l:=(jR.mp h).2.1
theorem gD(R C:Nat)(hR:R<=4)(hC:C<=5)(ru:Str)(hru:ef ru)(fl:Sy)(hfl:fl.length<=3)(pl:Nat)(iO:pl<fl.length)(hln:1<=fl.getD pl 0/\fl.getD pl 0<=10)(rows:List (List Sh))(hrows:∀h∈rows,h.length=pl/\∀t∈h,1<=t.n/\t.n<=1000)(hlen:rows.length<=1600)(s6 s7 s8 s9 gi eX dR nN:Slot) :
  ∃(t6 t7 t8 t9 sV kK nQ NW:Slot),fV [.F (.tup [.int R,.int C]),.F (jr fl),.F (.str ru),.F (.lst (rows.map (gv ru))),.F (.int pl),.F (.int (fl.getD pl 0:Nat)),s6,s7,s8,s9,gi,eX,dR,nN]
   = some (.nx [.F (.tup [.int R,.int C]),.F (jr fl),.F (.str ru),.F (.lst ((iJ R C ru fl pl rows).map (gv ru))),.F (.int pl),.F (.int (fl.getD pl 0:Nat)),t6,t7,t8,t9,sV,kK,nQ,NW]):=by
 have a1:=wF R C (by lia) (by lia) (fl.getD pl 0);have ls:=sO R C hR hC (fl.getD pl 0);have hn:∀s∈ei R C (fl.getD pl 0),1<=s.n/\s.n<=10:=λs hs=>by rw[qm hs];exact hln
 obtain⟨ss,MP⟩:∃ss,ss=ei R C (fl.getD pl 0):=⟨_,rfl⟩;rw[<- MP]at a1 ls hn;have b1:=dg (t:=bZ 0) (k:=a5 (λenv=>((aa ah (aa aj fNil)) env).bind m__law_halo)) (env:=[.un,.F (.str ru)]) Sh.d (λs=>cP (iK ru s)) ss λs hs=>⟨[.F s.d,.F (.str ru)],rfl,i0 ((call_v (af rfl (af rfl aE))).trans (uk s (by have:=hn s hs;lia) ru hru).1)⟩;have c1:=dg (t:=bZ 0) (k:=a5 (λenv=>((aa aj fNil) env).bind m__law_cells)) (env:=[.un]) Sh.d (λs=>.lst (s.cs.map cel)) ss λs hs=>⟨[.F s.d],rfl,i0 ((call_v (af rfl aE)).trans (lM s (by have:=hn s hs;lia)))⟩;obtain⟨e2,h1,DJ,DK,m4,eU,rfl⟩:=jU (t:=md [10,11]) (body:=dQ) (gv ru) (λacc e=>∃(DJ DK m4 eU:Slot),e=eA R C fl ru (.lst (rows.map (gv ru))) pl (fl.getD pl 0) ss acc DJ DK m4 eU) (λh=>((ss.filter (okN ru fl pl h)).map λs=>h++[s]).map (gv ru)) 40 800000 rows [] _ ⟨gi,eX,dR,nN,rfl⟩ (by rw[Pr];lia) λh hh=>by
  refine⟨by rw[c_,c_];exact C_ (OY _ _) ls,λacc e ⟨DJ,DK,m4,eU,he⟩ hl'=>?_⟩;subst he;obtain⟨q1,q2⟩:=hrows h hh;obtain⟨s12'',s13'',u⟩:=all2 R C fl ru hru (.lst (rows.map (gv ru))) pl iO ss acc (by lia) h q1 q2 (by lia) m4 eU ls (λs hs=>(hn s hs).1);exact⟨_,fM (e0:=eA R C fl ru (.lst (rows.map (gv ru))) pl (fl.getD pl 0) ss acc (.F (aC h)) (.F (.lst (h.map λs=>cP (iK ru s)))) m4 eU) rfl u,_,_,_,_,rfl⟩
 have hst:rows.flatMap (λh=>((ss.filter (okN ru fl pl h)).map λs=>h++[s]).map (gv ru))=(iJ R C ru fl pl rows).map (gv ru):=by
  unfold iJ;rw[PC,MP]
 rw[hst,O_]at h1;have l1:(ss.map λs=>cP (iK ru s)).length<=16000000:=by rw[c_];lia
 have l2:(ss.map λs=>D.lst (s.cs.map cel)).length<=16000000:=by rw[c_];lia
 exact⟨.F (.lst (ss.map Sh.d)),.F (.lst (ss.map λs=>cP (iK ru s))),.F (.lst (ss.map λs=>.lst (s.cs.map cel))),.F (.lst ((iJ R C ru fl pl rows).map (gv ru))),DJ,DK,m4,eU,(ak (aS ((call_v (af rfl (af rfl aE))).trans a1))).trans ((ak (aS (cg (cm rfl) rfl b1 l1))).trans ((ak (aS (cg (cm rfl) rfl c1 l2))).trans ((ak (gP rfl)).trans ((ak ((cF (cm rfl)).trans h1)).trans ((ak rfl).trans (aS rfl))))))⟩
theorem CV(h:f env=some (.tup ds)):yi f env=some (iq 0 ds):=by unfold yi;rw[h];rfl
theorem xu(R C:Nat)(hR:R<=4)(hC:C<=5)(ru:Str)(fl:Sy)(j:Nat)(rows:List (List Sh)):(iJ R C ru fl j rows).length<=40*rows.length:=
 k6 rows λh _=>by rw[c_];exact C_ (OY _ _) (sO R C hR hC _)
theorem jG(R C:Nat)(hR:R<=4)(hC:C<=5)(ru:Str)(fl:Sy):∀j,(eR R C ru fl j).length<=40 ^ j
 | 0=>by simp[eR]
 | j+1=>by
  have h1:=xu R C hR hC ru fl j (eR R C ru fl j);have h2:=jG R C hR hC ru fl j;rw[P6];show(iJ R C ru fl j (eR R C ru fl j)).length<=_
  lia
theorem oq:x∈iJ R C ru fl j rows↔∃h∈rows,∃s∈ei R C (fl.getD j 0),okN ru fl j h s=true/\x=h++[s]:=by
 unfold iJ;simp only[PF,x_,OU];constructor
 .rintro⟨h,hh,s,⟨h1,h2⟩,rfl⟩;exact⟨h,hh,s,h1,h2,rfl⟩
 .rintro⟨h,hh,s,h1,h2,rfl⟩;exact⟨h,hh,s,⟨h1,h2⟩,rfl⟩
theorem vW(R C:Nat)(ru:Str)(fl:Sy)(hf:∀n∈fl,1<=n/\n<=10):∀j,j<=fl.length->∀h∈eR R C ru fl j,h.length=j/\∀t∈h,1<=t.n/\t.n<=1000
 | 0,_,h,hh=>by cases u_.mp hh;exact⟨rfl,λt ht=>by cases ht⟩
 | j+1,hj,x,hx=>by
  obtain⟨h,hh,s,h1,h2,rfl⟩:=oq.mp hx;obtain⟨i1,i2⟩:=vW R C ru fl hf j (by lia) h hh;refine⟨by simp[i1],λt ht=>?_⟩;rcases Oz.mp ht with ht | ht
  .exact i2 t ht
  .cases u_.mp ht;rw[qm h1];have:=hf (fl.getD j 0) (by rw[g_,f_ (by lia)];exact OL _)
   lia
theorem Ek(h:n<=3):40 ^ n<=64000:=C_ (O1 (by decide) h) (by decide)
theorem GU(R C:Nat)(hR:R<=4)(hC:C<=5)(ru:Str)(hru:ef ru)(fl:Sy)(hfl:fl.length<=3)(hf:∀n∈fl,1<=n/\n<=10) :
  m__law_all [.tup [.int R,.int C],jr fl,.str ru]=some (.lst ((eR R C ru fl fl.length).map aC)):=by
 obtain⟨e2,h1,s4,s5,s6,s7,s8,s9,gi,eX,dR,nN,rfl⟩:=df (t:=md [4,5]) (body:=fV) (λj e=>∃(s4 s5 s6 s7 s8 s9 gi eX dR nN:Slot),e=[.F (.tup [.int R,.int C]),.F (jr fl),.F (.str ru),.F (.lst ((eR R C ru fl j).map (gv ru))),s4,s5,s6,s7,s8,s9,gi,eX,dR,nN]) (iq 0 (fl.map λ(n:Nat)=>.int n)) 0 _ ⟨.un,.un,.un,.un,.un,.un,.un,.un,.un,.un,rfl⟩ λi d e hd aG=>by
  obtain⟨s4,s5,s6,s7,s8,s9,gi,eX,dR,nN,he⟩:=aG;subst he;have hi:=(o_.mp hd).1;rw[fE,c_]at hi;have hg:fl[i]?=some (fl.getD i 0):=by rw[g_,f_ hi];rfl
  have hx:(fl.map λ(n:Nat)=>D.int n)[i]?=some (.int ((fl.getD i 0:Nat):Int)):=by rw[m_,hg];rfl
  rw[jw hx]at hd;cases hd;simp only[Oy];have hp2:40 ^ i<=40 ^ 2:=O1 (by decide) (by lia);obtain⟨t6,t7,t8,t9,sV,kK,nQ,NW,u1⟩:=gD R C hR hC ru hru fl hfl i hi (hf _ (Ox hg)) (eR R C ru fl i) (vW R C ru fl hf i (by lia)) (by have:=jG R C hR hC ru fl i;lia) s6 s7 s8 s9 gi eX dR nN;exact⟨_,fM rfl u1,_,_,_,_,_,_,_,_,_,_,rfl⟩
 rw[Oy,fE,c_]at h1;have h40:=Ek hfl;have hlen:=jG R C hR hC ru fl fl.length;refine aV ((ak (aS rfl)).trans ((ak ((cF (CV rfl)).trans h1)).trans (bu (cg (cm rfl) rfl ?_ (by rw[c_];lia)))));exact dg (gv ru) aC _ λh hh=>⟨_,rfl,rfl⟩
def Hx(ru:Str)(s t:Sh):Prop:=(t.n=s.n->Bh s t)/\sv ru s t=true
instance (ru:Str)(s t:Sh):Decidable (Hx ru s t):=by unfold Hx;infer_instance
theorem xM(h:Bh s t)(h2:Bh t u):Bh s u:=by
 rcases h with h | ⟨e,h⟩
 .rcases h2 with h2 | ⟨e2,_⟩
  .exact .inl (Int.lt_trans h h2)
  .exact .inl (e2▸h)
 .rcases h2 with h2 | ⟨e2,h2⟩
  .exact .inl (e▸h2)
  .refine .inr ⟨e.trans e2,?_⟩;rcases h with h | ⟨f,h⟩
   .rcases h2 with h2 | ⟨f2,_⟩
    .exact .inl (Int.lt_trans h h2)
    .exact .inl (f2▸h)
   .rcases h2 with h2 | ⟨f2,h2⟩
    .exact .inl (f▸h2)
    .refine .inr ⟨f.trans f2,?_⟩;rcases h with ⟨p,q⟩ | ⟨p,q⟩
     .rcases h2 with ⟨p2,_⟩ | ⟨p2,_⟩
      .rw[q]at p2;cases p2
      .exact .inl ⟨p,p2▸q⟩
     .rcases h2 with ⟨p2,q2⟩ | ⟨p2,q2⟩
      .exact .inl ⟨p.trans p2,q2⟩
      .exact .inr ⟨p.trans p2,Qn q q2⟩
theorem og{fl:Sy}{j:Nat}(h:j<fl.length):fl.take (j+1)=fl.take j++[fl.getD j 0]:=by
 rw[PX,g_,f_ h];rfl
theorem u7{ru:Str}{fl:Sy}(hs:fl.Pairwise (·>=·)){j:Nat}(hj:j<fl.length){h:List Sh}(hm:h.map Sh.n=fl.take j)(hp:h.Pairwise (Hx ru)){s:Sh}(NX:s.n=fl.getD j 0):okN ru fl j h s=true↔∀t∈h,Hx ru t s:=by
 have hlen:h.length=j:=by have:=OZ List.length hm;rw[c_,Pk]at this;lia
 have EF:∀t∈h,s.n<=t.n:=λt ht=>by
  have h1:t.n∈fl.take j:=hm▸Pv ht;have uP:(fl.take j++fl.drop j).Pairwise (·>=·):=by rw[PK];exact hs
  rw[NX];refine(O0.mp uP).2.2 _ h1 _ ?_;rw[g_,f_ hj,PR hj];exact j_
 unfold okN rS;rw[A_,I_]
 by_cases hz:j=0
 .have:h=[]:=List.eq_nil_of_length_eq_zero (by lia);subst this;simp[hz]
 obtain⟨h0,u,rfl⟩:∃h0 u,h=h0++[u]:=by
  have hne:h≠[]:=λe=>by rw[e]at hlen;exact hz hlen.symm
  exact⟨h.dropLast,h.getLast hne,(Qc hne).symm⟩
 have hu:u.n=fl.getD (j-1) 0/\h0.map Sh.n=fl.take (j-1):=by
  have e:fl.take j=fl.take (j-1)++[fl.getD (j-1) 0]:=by
   have:=og (fl:=fl) (j:=j-1) (by lia);rwa [show j-1+1=j by lia]at this
  rw[e,OB]at hm;have:=List.append_inj' hm rfl;exact⟨by simpa using this.2,this.1⟩
 have NY:∀t∈h0,u.n<=t.n:=λt ht=>by
  have uP:(fl.take j).Pairwise (·>=·):=hs.sublist (List.take_sublist _ _);rw[<- hm,OB]at uP;exact(O0.mp uP).2.2 _ (Pv ht) _ (by simp)
 rw[List.getLast?_append];simp only[List.getLast?_singleton,Option.some_or,hz,decide_false,Bool.false_or,Se,Bool.not_eq_true',decide_eq_false_iff_not,w_];rw[<- hu.1,<- NX];constructor
 .rintro⟨h1,h2⟩ t ht;refine⟨λe=>?_,h2 t ht⟩;rcases h1 with h1 | h1
  .have b1:=EF u (by simp);rcases Oz.mp ht with ht | ht
   .have:=NY t ht;lia
   .cases u_.mp ht;lia
  .rcases Oz.mp ht with ht | ht
   .have b1:=EF u (by simp);have b2:=NY t ht;exact xM (((O0.mp hp).2.2 t ht u (by simp)).1 (by lia)) h1
   .cases u_.mp ht;exact h1
 .intro hf;refine⟨?_,λt ht=>(hf t ht).2⟩
  by_cases e:u.n=s.n
  .exact .inr ((hf u (by simp)).1 e.symm)
  .exact .inl e
theorem lI(R C:Nat)(ru:Str){fl:Sy}(hs:fl.Pairwise (·>=·)):∀(j:Nat),j<=fl.length->∀h,h∈eR R C ru fl j↔h.map Sh.n=fl.take j/\(∀s∈h,s∈ei R C s.n)/\h.Pairwise (Hx ru)
 | 0,_,h=>by
  show h∈[[]]↔_;rw[u_,List.take_zero,Ru];constructor
  .rintro rfl;exact⟨rfl,λs h=>(by cases h),.nil⟩
  .exact λh=>h.1
 | j+1,hj,x=>by
  have ih:=lI R C ru hs j (by lia);show x∈iJ R C ru fl j (eR R C ru fl j)↔_;rw[oq,og (by lia)];constructor
  .rintro⟨h,hh,s,h1,h2,rfl⟩;obtain⟨g1,g2,g3⟩:=(ih h).mp hh;have hn:=qm h1;refine⟨by rw[OB,g1,<- hn];rfl,λt ht=>?_,O0.mpr ⟨g3,QR _ _,λt ht u hu=>?_⟩⟩
   .rcases Oz.mp ht with ht | ht
    .exact g2 t ht
    .cases u_.mp ht;rw[hn];exact h1
   .cases u_.mp hu;exact(u7 hs (by lia) g1 g3 hn).mp h2 t ht
  .rintro⟨g1,g2,g3⟩;obtain⟨h,s,rfl⟩:∃h s,x=h++[s]:=by
    have hne:x≠[]:=λe=>by rw[e]at g1;simp at g1
    exact⟨x.dropLast,x.getLast hne,(Qc hne).symm⟩
   rw[OB]at g1;obtain⟨q1,q2⟩:=List.append_inj' g1 rfl;have hn:s.n=fl.getD j 0:=by simpa using q2
   obtain⟨p1,p2,p3⟩:=O0.mp g3;refine⟨h,(ih h).mpr ⟨q1,λt ht=>g2 t (by simp[ht]),p1⟩,s,hn▸g2 s (by simp),(u7 hs (by lia) q1 p1 hn).mpr λt ht=>p3 t ht s (by simp),rfl⟩
structure PL(R C:Nat)(fl:List Nat)(ru:Str):Prop where
 r0:0<R
 r4:R<=4
 c0:0<C
 c5:C<=5
 l0:0<fl.length
 l3:fl.length<=3
 sz:∀n∈fl,1<=n/\n<=4
 up:fl.Pairwise (·>=·)
 ru:ef ru
theorem HY{r:Sz}(h:r.length=7):∃a b c d e f g,r=[a,b,c,d,e,f,g]:=by
 match r,h with
 | [a,b,c,d,e,f,g],_=>exact⟨a,b,c,d,e,f,g,rfl⟩
theorem vt:∀(ns:Sz),(∀x∈ns,1<=x/\x<=4)->ns.Pairwise (·>=·)->∃fl:Sy,ns.map D.int=fl.map (λ(n:Nat)=>D.int n)/\fl.length=ns.length/\(∀n∈fl,1<=n/\n<=4)/\(∀n∈fl,(n:Int)∈ns)/\fl.Pairwise (·>=·)
 | [],_,_=>⟨[],rfl,rfl,λ_ h=>(by cases h),λ_ h=>(by cases h),.nil⟩
 | x::ns,h,hp=>by
  obtain⟨p1,p2⟩:=ON.mp hp;obtain⟨fl,h1,h2,h3,h6,h7⟩:=vt ns (λy hy=>h y (i_ _ hy)) p2;obtain⟨h4,h5⟩:=h x j_;obtain⟨n,rfl⟩:=Pq (show 0<=x by lia);refine⟨n::fl,by simp[h1],by simp[h2],λm hm=>?_,λm hm=>?_,ON.mpr ⟨λm hm=>?_,h7⟩⟩
  .rcases s_.mp hm with rfl | hm
   .lia
   .exact h3 m hm
  .rcases s_.mp hm with rfl | hm
   .exact j_
   .exact i_ _ (h6 m hm)
  .have:=p1 _ (h6 m hm);lia
theorem zY{env:En}(ns:Sz)(hg:bf env 9=some (.tup (ns.map .int)))(h:∀x∈ns,1<=x/\x<=4)(hl:ns.length<=3):∃fl:Sy,bc j6 (bc zZ (bc sortI fu)) env=some (jr fl)/\fl.length=ns.length/\(∀n∈fl,1<=n/\n<=4)/\fl.Pairwise (·>=·):=by
 obtain⟨fl,h1,h2,h3,_,h5⟩:=vt (j8 ns).reverse (λx hx=>h x ((hW ns).mem_iff.mp (List.mem_reverse.mp hx))) (List.pairwise_reverse.mpr (qc ns));refine⟨fl,?_,by rw[h2,List.length_reverse,rD],h3,h5⟩;have e1:bc sortI fu env=some (.lst ((j8 ns).map .int)):=by
  rw[jD hg];show(ju (ns.map .int)).bind _=_;rw[jX];show(if ns.length<64 then _ else _)=_;rw[k_ (by lia)]
 have e2:bc zZ (bc sortI fu) env=some (.lst ((j8 ns).map .int).reverse):=by rw[jD e1];rfl
 rw[yP e2,<- List.map_reverse,h1];rfl
theorem LH{x:Int}(h:0<=x/\x<4):x=0\/x=1\/x=2\/x=3:=by lia
theorem L1{x:Int}(h:0<=x/\x<3):x=0\/x=1\/x=2:=by lia
theorem CM(c:Int):∃(R C:Nat)(fl:Sy)(ru:Str),m__law_game [.int c]=some (.tup [.tup [.int R,.int C],jr fl,.str ru])/\PL R C fl ru:=by
 obtain⟨r,h1,h2,h3⟩:=sP c [4,4,4,4,4,4,3] (by decide) (by decide);obtain⟨w,ro,co,f,s,t,ru,rfl⟩:=HY h2;have hw:=h3 0 w 4 rfl rfl;have hro:=h3 1 ro 4 rfl rfl;have hco:=h3 2 co 4 rfl rfl;have hf:=h3 3 f 4 rfl rfl;have hs:=h3 4 s 4 rfl rfl;have ht:=h3 5 t 4 rfl rfl;have hru:=h3 6 ru 3 rfl rfl;clear h2 h3;have rule:∃u:Str,ef u/\L2.atI [D.str HB,.str Hz,.str Kw] ru=some (.str u):=by
  rcases L1 hru with rfl | rfl | rfl
  .exact⟨_,.inl rfl,rfl⟩
  .exact⟨_,.inr (.inl rfl),rfl⟩
  .exact⟨_,.inr (.inr rfl),rfl⟩
 obtain⟨u,hu1,hu2⟩:=rule;have fin:∀(R C:Int)(ns:Sz),0<R->R<=4->0<C->C<=5->(∀x∈ns,1<=x/\x<=4)->0<ns.length->ns.length<=3->∃(R' C':Nat)(fl:Sy),
   aD (setF 9 (bc j6 (bc zZ (bc sortI fu)))) (bt (aP (aa ko (aa fu (aa (ai ay (bN (aa (fC (.str "free")) (aa (fC (.str "sides")) (aa (fC (.str "corners")) fNil)))) jv) fNil))))) [.F (.int c),.F (.int w),.F (.int ro),.F (.int co),.F (.int f),.F (.int s),.F (.int t),.F (.int ru),.F (.tup [.int R,.int C]),.F (.tup (ns.map .int))]
    = some (.rt (.tup [.tup [.int R',.int C'],jr fl,.str u]))/\PL R' C' fl u:=λR C ns g1 g2 g3 g4 g5 g6 g7=>by
  obtain⟨R',rfl⟩:=Pq (Ry g1);obtain⟨C',rfl⟩:=Pq (Ry g3);obtain⟨fl,k1,k2,k3,k4⟩:=zY (env:=[.F (.int c),.F (.int w),.F (.int ro),.F (.int co),.F (.int f),.F (.int s),.F (.int t),.F (.int ru),.F (.tup [.int R',.int C']),.F (.tup (ns.map .int))]) ns rfl g5 g7;exact⟨R',C',fl,(ak (aS k1)).trans (bu (cu (af rfl (af rfl (af (ez (i:=ru) rfl rfl hu2) aE))))),by lia,by lia,by lia,by lia,by lia,by lia,k3,k4,hu1⟩
 have start:GQ [1,2,3,4,5,6,7] (λenv=>((aa aj (aa (bN (aa S2 (aa S2 (aa S2 (aa S2 (aa S2 (aa S2 (aa S1 fNil)))))))) fNil)) env).bind m__law_drawn) (aT 10 [.int c])=some (.nx [.F (.int c),.F (.int w),.F (.int ro),.F (.int co),.F (.int f),.F (.int s),.F (.int t),.F (.int ru),.un,.un]):=D9 ((call_v (af rfl (af rfl aE))).trans h1) rfl;rcases LH hw with rfl | rfl | rfl | rfl
 .obtain⟨R',C',fl,k1,k2⟩:=fin (1+ro) (1+co) [1+f] (by lia) (by lia) (by lia) (by lia) (by intro x hx;cases u_.mp hx;lia) (by simp) (by simp);exact⟨R',C',fl,u,aV ((ak start).trans ((ak (aS rfl)).trans ((ak ((be rfl).trans rfl)).trans ((ak (aS rfl)).trans ((ak ((be rfl).trans rfl)).trans k1))))),k2⟩
 .obtain⟨R',C',fl,k1,k2⟩:=fin (2+ro%3) (2+co%3) [1+f%3,1+s%3] (by lia) (by lia) (by lia) (by lia) (by intro x hx;simp only[s_,OR,P_]at hx;lia) (by simp) (by simp);exact⟨R',C',fl,u,aV ((ak start).trans ((ak (aS rfl)).trans ((ak ((be rfl).trans rfl)).trans ((ak (aS rfl)).trans ((ak ((be rfl).trans rfl)).trans k1))))),k2⟩
 .obtain⟨R',C',fl,k1,k2⟩:=fin (1+ro%3) (3+co%2) [1+f%3,1+s%2,1+t%2] (by lia) (by lia) (by lia) (by lia) (by intro x hx;simp only[s_,OR,P_]at hx;lia) (by simp) (by simp);exact⟨R',C',fl,u,aV ((ak start).trans ((ak (aS rfl)).trans ((ak ((be rfl).trans rfl)).trans ((ak (aS rfl)).trans ((ak ((be rfl).trans rfl)).trans k1))))),k2⟩
 .obtain⟨R',C',fl,k1,k2⟩:=fin 2 (2+co) [1+f%3,1+s%3,1+t%2] (by lia) (by lia) (by lia) (by lia) (by intro x hx;simp only[s_,OR,P_]at hx;lia) (by simp) (by simp);exact⟨R',C',fl,u,aV ((ak start).trans ((ak (aS rfl)).trans ((ak ((cf rfl).trans (aS rfl))).trans ((ak (aS rfl)).trans ((ak ((cf rfl).trans (aS rfl))).trans k1))))),k2⟩
theorem PL.ten{R C:Nat}{fl:Sy}{ru:Str}(h:PL R C fl ru):∀n∈fl,1<=n/\n<=10:=λn hn=>by have:=h.sz n hn;lia
theorem PL.all{R C:Nat}{fl:Sy}{ru:Str}(h:PL R C fl ru):m__law_all [.tup [.int R,.int C],jr fl,.str ru]=some (.lst ((eR R C ru fl fl.length).map aC)):=GU R C h.r4 h.c5 ru h.ru fl h.l3 h.ten
theorem PL.len{R C:Nat}{fl:Sy}{ru:Str}(h:PL R C fl ru):(eR R C ru fl fl.length).length<=64000:=C_ (jG R C h.r4 h.c5 ru fl fl.length) (Ek h.l3)
theorem PL.one{R C:Nat}{fl:Sy}{ru:Str}(h:PL R C fl ru):PL R C [1] ru:=⟨h.r0,h.r4,h.c0,h.c5,by decide,by decide,by decide,by simp,h.ru⟩
theorem PL.ne{R C:Nat}{fl:Sy}{ru:Str}(h:PL R C fl ru):eR R C ru [1] 1≠[]:=by
 have:[(⟨0,0,false,1⟩:Sh)]∈eR R C ru [1] 1:=(lI R C ru (by simp) 1 (by decide) _).mpr ⟨rfl,λs hs=>by
  cases u_.mp hs;exact jR.mpr ⟨⟨0,0,rfl,rfl,h.r0,h.c0⟩,rfl,λ_=>(by have:=h.c0;simp only;lia),λz=>by cases z⟩,QR _ _⟩
 intro e;rw[e]at this;cases this
theorem E6(h:List Sh):pl (aC h)=true:=by unfold aC pl;exact zp _ λx hx=>by obtain⟨s,_,rfl⟩:=x_.mp hx;rfl
theorem zy(hs:List (List Sh)):i9 (hs.map aC)=true:=zp _ λx hx=>by obtain⟨s,_,rfl⟩:=x_.mp hx;exact E6 s
theorem w8(c:Int):∃(R C:Nat)(fl:Sy)(ru:Str),m__law_played [.int c]=some (.tup [.tup [.int R,.int C],jr fl,.str ru,.lst ((eR R C ru fl fl.length).map aC)])/\PL R C fl ru/\eR R C ru fl fl.length≠[]:=by
 obtain⟨R,C,fl,ru,h1,hp⟩:=CM c;have a1:=hp.all;have b1:=hp.one.all;obtain⟨rows,hr⟩:∃rows,rows=eR R C ru fl fl.length:=⟨_,rfl⟩;rw[<- hr]at a1;have heq:fB (ai cy aQ (bN fNil)) [.F (.int c),.F (.tup [.int R,.int C]),.F (jr fl),.F (.str ru),.F (.lst (rows.map aC))]=some (rows.map aC).isEmpty:=dO (BR rfl (zy rows));have start:BY [1,2,3] (λenv=>((aa aj fNil) env).bind m__law_game) (aT 5 [.int c])=some (.nx [.F (.int c),.F (.tup [.int R,.int C]),.F (jr fl),.F (.str ru),.un]):=qS ((call_v (af rfl aE)).trans h1) rfl;cases rows with
 | nil=>
  exact⟨R,C,[1],ru,aV ((ak start).trans ((ak (aS ((call_v (af rfl (af rfl (af rfl aE)))).trans a1))).trans ((ak ((cf heq).trans ((ak (aS rfl)).trans (aS ((call_v (af rfl (af rfl (af rfl aE)))).trans b1))))).trans (bu rfl)))),hp.one,hp.ne⟩
 | cons r rows=>
  refine⟨R,C,fl,ru,?_,hp,by rw[<- hr];simp⟩;rw[<- hr];exact aV ((ak start).trans ((ak (aS ((call_v (af rfl (af rfl (af rfl aE)))).trans a1))).trans ((ak ((be heq).trans rfl)).trans (bu rfl))))
theorem gK(f g:α->D)(p:α->Bool):∀(xs:List α),(∀x∈xs,∃e1,t (f x) env=some e1/\c e1=some (p x)/\(p x=true->k e1=some [g x]))->iT t c k env (xs.map f)=some ((xs.filter p).map g)
 | [],_=>rfl
 | x::xs,h=>by
  obtain⟨e1,h1,h2,h3⟩:=h x j_;have ih:=gK f g p xs λy hy=>h y (i_ _ hy);show iT _ _ _ _ (f x::xs.map f)=_;unfold iT;rw[h1];show(c e1).bind _=_;rw[h2];cases hp:p x with
  | true=>
   show(if true=true then k e1 else some []).bind _=_;rw[k_ rfl,h3 hp];show(iT t c k env (xs.map f)).bind _=_;rw[ih,P5,k_ hp];rfl
  | false=>
   simp only[M_,z_,OS,ih,O_,P5,hp]
theorem Io(h:env[i]?=some (.O (.L ds)))(hf:f env=some (.lst es))(hl:ds.length+es.length<=16000000):wY i f env=some (.nx (env.set i (.O (.L (ds++es))))):=by
 unfold wY;rw[h];show(f env).bind _=_;rw[hf];show(if ds.length+es.length<=16000000 then _ else _)=_;rw[k_ hl]
abbrev Pt:=Int×Int
def qG(R C:Nat):List Pt:=(List.range R).flatMap λi=>(List.range C).map λj=>(((i:Nat):Int),((j:Nat):Int))
theorem EU:∀R:Fin 5,∀C:Fin 6,(qG R C).Nodup/\(qG R C).length<=20:=by decide
theorem pN(h:f env=some (.lst ds)):yi f env=some (iq 0 ds):=by unfold yi;rw[h];rfl
theorem Iy(h:f env=some (.lst es))(h1:env[i]?=some (.O (.L ds)))(hl:ds.length+es.length<=16000000):wY i f env=some (.nx (env.set i (.O (.L (ds++es))))):=Io h1 h hl
theorem GV(R C:Nat)(hR:R<=4)(hC:C<=5):m__law_sheet_cells [.tup [.int R,.int C]]=some (.lst ((qG R C).map cel)):=by
 have MN:([]:SV).length+C*(aI 0 R).length<=8000:=by
  have h1:=Q6 hC hR;rw[eD,Pr,Oy];exact C_ h1 (by decide)
 obtain⟨e2,h1,s2,h2⟩:=gR (t:=bZ 2) (body:=dk) (λacc e=>∃s2,e=[.F (.tup [.int R,.int C]),.O (.L acc),s2]) (λd=>(aI 0 C).map λy=>.tup [d,y]) C 8000 (aI 0 R) [] _ ⟨.un,rfl⟩ MN λd hd=>⟨by rw[c_,eD];exact h_ _,λacc e ⟨s2,he⟩ hl=>by
  subst he;refine⟨_,fM (e0:=[.F (.tup [.int R,.int C]),.O (.L acc),.F d]) rfl (Iy (es:=(aI 0 C).map λy=>.tup [d,y]) (cg (dB (n:=C) rfl (by lia)) rfl (pT (λy=>.tup [d,y]) _ λy hy=>⟨_,rfl,rfl⟩) (by rw[c_,eD];lia)) rfl (by rw[c_,eD];lia)),⟨_,rfl⟩⟩⟩
 subst h2;have he:((aI 0 R).flatMap λd=>(aI 0 C).map λy=>.tup [d,y])=(qG R C).map cel:=by
  unfold aI qG cel;simp[RZ,PC,OA,RT]
 rw[O_,he]at h1;exact aV ((ak (gP rfl)).trans ((ak ((cF (dB (n:=R) rfl (by lia))).trans h1)).trans rfl))
theorem tE(xs:List α)(k:Nat)(y:α):(insAt xs k y).Perm (y::xs):=by
 unfold insAt;have:=List.perm_middle (a:=y) (l₁:=xs.take k) (l₂:=xs.drop k);rwa [PK]at this
theorem HV(h1:env[i]?=some (.O (.L ds)))(hk:fk env=some (.int j))(h:f env=some d)(h0:0<=j)(hj:j<=ds.length)(hl:ds.length<16000000):Az i fk f env=some (.nx (env.set i (.O (.L (insAt ds j.toNat d))))):=by
 unfold Az;rw[h1];show(fk env).bind _=_;rw[hk];show(f env).bind _=_;rw[h];show(if 0<=j/\j<=ds.length/\ds.length<16000000 then _ else _)=_;rw[k_ ⟨h0,hj,hl⟩]
theorem pZ:∀(xs:List α),(∀x∈xs,pl (f x)=true)->i9 (xs.map f)=true
 | [],_=>rfl
 | x::xs,h=>by
  show i9 (f x::xs.map f)=true;unfold i9;rw[h x j_,pZ xs λy hy=>h y (i_ _ hy)];rfl
theorem zU(p:SA):pl (cel p)=true:=rfl
theorem uL(q p:Pt):ib (cel q) (cel p)=decide (q=p):=by
 obtain⟨a,b⟩:=q;obtain⟨c,d⟩:=p;unfold cel;simp only[ib,gC,Qe,Bool.and_true];rw[OM];simp
theorem GA(p:Pt)(cs:List Pt):inD (cel p) (cs.map cel)=decide (p∈cs):=by
 unfold inD;rw[List.any_map,OM,R0,w_];constructor
 .rintro⟨q,hq,he⟩;rw[Rv,uL,w_]at he;exact he▸hq
 .intro h;exact⟨p,h,by rw[Rv,uL,w_]⟩
theorem CP(p:Pt):fw (cel p)<=60:=C_ (wc (n:=0) λd hd=>by
 rcases s_.mp hd with rfl | hd
 .rw[hU];exact h_ _
 .cases u_.mp hd;rw[hU];exact h_ _) (by decide)
theorem vT(cs:List Pt):i9 (cs.map cel)=true:=pZ cs λp _=>zU p
theorem DZ{f g:Fe}{env:En}{p:Pt}{cs:List Pt}(h1:f env=some (cel p))(h2:g env=some (.lst (cs.map cel))):ai (D3 false) f g env=some (.bl (decide (p∈cs))):=LN h1 h2 (CP p) (GA p cs) (by rw[zU,vT];rfl)
def Apart(h:List Sh):Prop:=h.Pairwise λs t=>∀p∈s.cs,p∉t.cs
def m7(h:List Sh)(p:Pt):Bool:=h.any λs=>decide (p∈s.cs)
theorem zf(s:Sh):s.cs.Nodup:=by
 unfold Sh.cs;refine O6.mpr (List.Pairwise.imp (λ{i j} (h:i≠j) e=>?_) List.nodup_range);unfold Sh.at at e
 split at e
 .have:=(Prod.mk.inj e).1;lia
 .have:=(Prod.mk.inj e).2;lia
theorem wZ(hr:ef ru)(hn:∀s∈h,1<=s.n)(pw:h.Pairwise (Hx ru)):Apart h:=by
 refine Qw (λ{s t} hs ht hf p hp hq=>?_) pw;refine(rl hr (hn s hs) (hn t ht)).mp hf.2 ⟨p,hq,p,hp,(0,0),?_,by unfold plus;simp⟩;rcases hr with rfl | rfl | rfl
 .rw[lF];simp
 .rw[lG];simp
 .rw[lZ];simp
structure Hid(R C:Nat)(fl:List Nat)(h:List Sh):Prop where
 ap:Apart h
 len:h.length<=3
 sz:∀s∈h,1<=s.n/\s.n<=4
 on:∀s∈h,s∈ei R C s.n
theorem PL.hid{R C:Nat}{fl:Sy}{ru:Str}(p:PL R C fl ru){h:List Sh}(hh:h∈eR R C ru fl fl.length):Hid R C fl h:=by
 obtain⟨a,b,c⟩:=(lI R C ru p.up _ (h_ _) h).mp hh;rw[O3]at a;have sz:∀s∈h,1<=s.n/\s.n<=4:=λs hs=>p.sz s.n (a▸Pv hs);exact⟨wZ p.ru (λs hs=>(sz s hs).1) c,by have:=OZ List.length a;rw[c_]at this;have:=p.l3;lia,sz,b⟩
theorem An(xs:List Pt):fw (.lst (xs.map cel))<=60:=C_ (u9 (n:=1) λd hd=>by
 obtain⟨p,_,rfl⟩:=x_.mp hd;exact wc (n:=0) λd hd=>by
  rcases s_.mp hd with rfl | hd
  .rw[hU];exact h_ _
  .cases u_.mp hd;rw[hU];exact h_ _) (by decide)
theorem zb{ks:List Pt}(h:ks.Nodup)(p:Pt):(il ks p).Nodup:=by
 unfold il
 split
 .exact h
 .rename_i hp;exact O0.mpr ⟨h,QR _ _,λa ha b hb e=>by rw[u_.mp hb]at e;exact hp (e▸ha)⟩
theorem Cv(s0 s3:Slot)(s:Sh)(hn:s.n<=1000)(ks:List Pt)(hk:ks.length<=15000)(Ms:ks.Nodup) :
  ∃ig yn,dA [s0,.O (pJ ks),.F s.d,s3]=some (.nx [s0,.O (pJ ig),.F s.d,yn])/\ig.length<=ks.length+s.n/\ig.Nodup/\∀q,q∈ig↔q∈ks\/q∈s.cs:=by
 have hlen:=tX s;obtain⟨e2,h1,ig,yn,h2,h3,MQ,h4⟩:=df (t:=bZ 3) (body:=gq) (λj e=>∃ig yn,e=[s0,.O (pJ ig),.F s.d,yn]/\ig.length<=ks.length+j/\ig.Nodup/\∀q,q∈ig↔q∈ks\/q∈s.cs.take j) (s.cs.map cel) 0 [s0,.O (pJ ks),.F s.d,s3] ⟨ks,s3,rfl,by lia,Ms,λq=>by simp⟩ λi d e hd aG=>by
  obtain⟨ig,yn,he,h3,MQ,h4⟩:=aG;subst he;rw[m_]at hd;obtain⟨q,hq,rfl⟩:=Ow.mp hd;have hi:=(o_.mp hq).1;have u3:=wg ig (q.1,q.2);refine⟨_,fM (e0:=[s0,.O (pJ ig),.F s.d,.F (cel q)]) rfl (D2 (ks:=ig) (a:=q.1) (b:=q.2) rfl rfl (by lia)),_,_,rfl,by lia,zb MQ _,λx=>?_⟩;rw[vA,h4,Oy,PX,hq];simp only[RI,Oz,u_,or_assoc]
 subst h2;rw[c_,Oy]at h3 h4;rw[O3]at h4;exact⟨ig,yn,(cF (cm ((call_v (af rfl aE)).trans (lM s hn)))).trans h1,by lia,MQ,h4⟩
theorem wH(h:List Sh)(h3:h.length<=3)(hn:∀s∈h,s.n<=4):∃ks,m__law_ground [aC h]=some (cP ks)/\ks.Nodup/\∀q,q∈ks↔m7 h q=true:=by
 obtain⟨e2,g1,ks,s2,s3,g2,g3,g3n,g4⟩:=df (t:=bZ 2) (body:=dA) (λj e=>∃ks s2 s3,e=[.F (aC h),.O (pJ ks),s2,s3]/\ks.length<=4*j/\ks.Nodup/\∀q,q∈ks↔m7 (h.take j) q=true) (h.map Sh.d) 0 [.F (aC h),.O (pJ []),.un,.un] ⟨[],.un,.un,rfl,by simp,.nil,λq=>by simp[m7]⟩ λi d e hd aG=>by
  obtain⟨ks,s2,s3,he,k3,k3n,k4⟩:=aG;subst he;rw[m_]at hd;obtain⟨s,hs,rfl⟩:=Ow.mp hd;have hi:=(o_.mp hs).1;have hm:=hn s (Ox hs);obtain⟨ig,yn,u1,u2,u2n,u3⟩:=Cv (.F (aC h)) s3 s (by lia) ks (by lia) k3n;refine⟨_,fM (e0:=[.F (aC h),.O (pJ ks),.F s.d,s3]) rfl u1,ig,_,_,rfl,by lia,u2n,λq=>?_⟩;rw[u3,k4,Oy,PX,hs];unfold m7;simp
 subst g2;rw[c_,Oy,O3]at g4;exact⟨ks,aV ((ak rfl).trans ((ak ((cF (Ew rfl)).trans g1)).trans rfl)),g3n,g4⟩
abbrev kS:Str:="look"
abbrev FJ:Str:="known"
inductive Pn where
 | kn (n:Int) | lk (p:Pt) (a b:Pn)
def Pn.D:Pn->Mi.D
 | .kn n=>.tup [.str FJ,.int n]
 | .lk p a b=>.tup [.str kS,cel p,a.D,b.D]
def Pn.dp:Pn->Nat
 | .kn _=>0
 | .lk _ a b=>1+Nat.max a.dp b.dp
def Pn.en(g:Pt->Bool):Pn->Int
 | .kn n=>n
 | .lk p a b=>if g p=true then b.en g else a.en g
def Pn.isL:Pn->Bool
 | .kn _=>false
 | .lk _ _ _=>true
theorem vZ{f:Fe}{env:En}(P:Pn)(h:f env=some P.D)(w:Str):ai cy (ai ay f SY) (fC (.str w)) env=some (.bl (if P.isL=true then kS==w else FJ==w)):=by
 cases P with
 | kn n=>exact(az (bO (i:=0) h rfl rfl) rfl).trans rfl
 | lk p a b=>exact(az (bO (i:=0) h rfl rfl) rfl).trans rfl
theorem jL{f:Fe}{env:En}(P:Pn)(h:f env=some P.D):fB (ai cy (ai ay f SY) (fC (.str kS))) env=some P.isL:=by
 refine(dO (vZ P h kS)).trans ?_;cases P<;>rfl
theorem qw{f:Fe}{env:En}(P:Pn)(h:f env=some P.D):fB (ai cy (ai ay f SY) (fC (.str FJ))) env=some !P.isL:=by
 refine(dO (vZ P h FJ)).trans ?_;cases P<;>rfl
omit [Th] in
theorem yu{n:Nat}{c:Fb}{b:Fs}{env:En}(h:c env=some false):tj (n+1) c b env=some (.nx env):=by
 unfold tj;rw[h];rfl
omit [Th] in
theorem vc{n:Nat}{c:Fb}{b:Fs}{env e:En}(h:c env=some true)(h2:b env=some (.nx e)):tj (n+1) c b env=tj n c b e:=by
 show(c env).bind _=_;rw[h];show(b env).bind _=_;rw[h2];rfl
theorem Jl(h1:f env=some (cel q))(h2:g env=some (cP ks)):ai (DS Th.h false) f g env=some (.bl (decide (q∈ks))):=by
 rw[az h1 h2];show(HA Th.h (cP ks)).bind _=_;unfold cP;rw[Em];show some (D.bl (decide (eh q∈ks.map eh)))=_;congr 2;rw[OM,w_,w_];exact fA
omit [Th] in
theorem vq{a b:Pn}{p:Pt}{n:Nat}(h:(Pn.lk p a b).dp<n+1):a.dp<n/\b.dp<n:=by
 have h':1+Nat.max a.dp b.dp<n+1:=h;have h1:=Nat.le_max_left a.dp b.dp;have h2:=Nat.le_max_right a.dp b.dp;have e:Nat.max a.dp b.dp=max a.dp b.dp:=rfl;rw[e]at h'
 lia
theorem tR(ks:List Pt):∀(P:Pn)(n:Nat),P.dp<n->tj n (fB (ai cy (ai ay aj SY) (fC (.str kS)))) jn [.F P.D,.F (cP ks)]=some (.nx [.F (Pn.kn (P.en λp=>decide (p∈ks))).D,.F (cP ks)])
 | .kn m,n+1,_=>yu (jL (.kn m) rfl)
 | .lk p a b,n+1,h=>by
  obtain⟨h1,h2⟩:=vq h;have g1:bc intD (ai (DS Th.h false) (ai ay aj SZ) ah) [.F (Pn.lk p a b).D,.F (cP ks)]=some (.int (if decide (p∈ks)=true then 1 else 0)):=(jD (Jl (q:=p) (bO (i:=1) rfl rfl rfl) rfl)).trans rfl
  by_cases hp:p∈ks
  .have e:(Pn.lk p a b).en (λp=>decide (p∈ks))=b.en λp=>decide (p∈ks):=k_ (v_ hp);rw[e];refine(vc (e:=[.F b.D,.F (cP ks)]) (jL (.lk p a b) rfl) ?_).trans (tR ks b n h2);refine aS (d:=b.D) (bO (i:=3) rfl ?_ rfl);refine(az rfl g1).trans ?_;rw[k_ (v_ hp)];rfl
  .have e:(Pn.lk p a b).en (λp=>decide (p∈ks))=a.en λp=>decide (p∈ks):=l_ (by simpa using hp);rw[e];refine(vc (e:=[.F a.D,.F (cP ks)]) (jL (.lk p a b) rfl) ?_).trans (tR ks a n h1);refine aS (d:=a.D) (bO (i:=2) rfl ?_ rfl);refine(az rfl g1).trans ?_;rw[l_ (by simpa using hp)];rfl
theorem xI(ks:List Pt)(P:Pn)(h:P.dp<70):m__law_end [P.D,cP ks]=some (.int (P.en λp=>decide (p∈ks))):=
 aV ((ak (tR ks P 70 h)).trans (bu (bO (i:=1) rfl rfl rfl)))
theorem IV(h:D)(ly:List Pt)(p:Pt)(a b:Pn)(s3 s4 s5 s6:Slot):eI [.F (Pn.lk p a b).D,.F h,.F (.lst (ly.map cel)),s3,s4,s5,s6]=some (.nx [.F (if p∈ly then b else a).D,.F h,.F (.lst (ly.map cel)),.F (.str kS),.F (cel p),.F a.D,.F b.D]):=by
 have g1:=DZ (f:=λenv=>bf env 4) (g:=λenv=>bf env 2) (env:=[.F (Pn.lk p a b).D,.F h,.F (.lst (ly.map cel)),.F (.str kS),.F (cel p),.F a.D,.F b.D]) (p:=p) (cs:=ly) rfl rfl;refine(ak (e:=[.F (Pn.lk p a b).D,.F h,.F (.lst (ly.map cel)),.F (.str kS),.F (cel p),.F a.D,.F b.D]) (qS (ds:=[.str kS,cel p,a.D,b.D]) rfl rfl)).trans ?_
 by_cases hp:p∈ly
 .rw[k_ hp];rw[v_ hp]at g1;exact aS (vw (b:=true) (dO g1) (λ_=>rfl) λz=>by cases z)
 .rw[l_ hp];rw[Ot hp]at g1;exact aS (vw (b:=false) (dO g1) (λz=>by cases z) λ_=>rfl)
theorem uK(h:D)(ly:List Pt):∀(P:Pn)(n:Nat),P.dp<n->∀(s3 s4 s5 s6:Slot),∃t3 t4 t5 t6,tj n (fB (ai cy (ai ay aj SY) (fC (.str kS)))) eI [.F P.D,.F h,.F (.lst (ly.map cel)),s3,s4,s5,s6]=some (.nx [.F (Pn.kn (P.en λp=>decide (p∈ly))).D,.F h,.F (.lst (ly.map cel)),t3,t4,t5,t6])
 | .kn m,n+1,_=>λs3 s4 s5 s6=>⟨s3,s4,s5,s6,yu (jL (.kn m) rfl)⟩
 | .lk p a b,n+1,hd=>λs3 s4 s5 s6=>by
  obtain⟨h1,h2⟩:=vq hd;have st:=vc (n:=n) (jL (f:=λenv=>bf env 0) (env:=[.F (Pn.lk p a b).D,.F h,.F (.lst (ly.map cel)),s3,s4,s5,s6]) (.lk p a b) rfl) (IV h ly p a b s3 s4 s5 s6)
  by_cases hp:p∈ly
  .rw[k_ hp]at st;have e:(Pn.lk p a b).en (λp=>decide (p∈ly))=b.en λp=>decide (p∈ly):=k_ (v_ hp);rw[e];obtain⟨t3,t4,t5,t6,q⟩:=uK h ly b n h2 (.F (.str kS)) (.F (cel p)) (.F a.D) (.F b.D);exact⟨t3,t4,t5,t6,st.trans q⟩
  .rw[l_ hp]at st;have e:(Pn.lk p a b).en (λp=>decide (p∈ly))=a.en λp=>decide (p∈ly):=l_ (by simpa using hp);rw[e];obtain⟨t3,t4,t5,t6,q⟩:=uK h ly a n h1 (.F (.str kS)) (.F (cel p)) (.F a.D) (.F b.D);exact⟨t3,t4,t5,t6,st.trans q⟩
theorem xX{h:D}{ly:List Pt}(hl:m_lying_cells [h]=some (.lst (ly.map cel)))(P:Pn)(hd:P.dp<70):m_number_by [P.D,h]=some (.int (P.en λp=>decide (p∈ly))):=by
 obtain⟨t3,t4,t5,t6,q⟩:=uK h ly P 70 hd .un .un .un .un;exact aV ((ak (aS ((call_v (af rfl aE)).trans hl))).trans ((ak q).trans (bu (bO (i:=1) rfl rfl rfl))))
theorem pF:∀(P:Pn)(n:Nat),P.dp<n->bE n [P.D]=some (.int (P.dp:Nat))
 | .kn m,n+1,_=>aV (bu (vw (b:=true) (qw (.kn m) rfl) (λ_=>rfl) λz=>by cases z))
 | .lk p a b,n+1,h=>by
  obtain⟨h1,h2⟩:=vq h;refine aV (bu (vw (b:=false) (qw (.lk p a b) rfl) (λz=>by cases z) λ_=>?_));have ga:=(call_v (m:=bE n) (af (f:=ai ay aj S0) (env:=aT 1 [(Pn.lk p a b).D]) (bO (i:=2) rfl rfl rfl) aE)).trans (pF a n h1);have gb:=(call_v (m:=bE n) (af (f:=ai ay aj S1) (env:=aT 1 [(Pn.lk p a b).D]) (bO (i:=3) rfl rfl rfl) aE)).trans (pF b n h2);refine(az rfl ((az ga gb).trans rfl)).trans ?_;show some (D.int (1+(if((b.dp:Nat):Int)>((a.dp:Nat):Int)then((b.dp:Nat):Int)else((a.dp:Nat):Int))))=_;have e:(Pn.lk p a b).dp=1+max a.dp b.dp:=rfl;rw[e];congr 2
  split<;>lia
theorem rJ(P:Pn)(h:P.dp<70):cj [P.D]=some (.int (P.dp:Nat)):=pF P 70 h
theorem sQ(ps:List Pn)(hl:ps.length<=16000000):m_looks_among [.lst (ps.map Pn.D)]=some (.lst ((ps.filter Pn.isL).map Pn.D)):=by
 have g:=gK (t:=bZ 0) (c:=fB (ai cy (ai ay aj SY) (fC (.str kS)))) (k:=a5 aj) (env:=[.un]) Pn.D Pn.D Pn.isL ps λP _=>⟨[.F P.D],rfl,jL P rfl,λ_=>rfl⟩;exact aV (bu (cg (cm rfl) rfl g (by rw[c_];exact C_ (OY _ _) hl)))
omit [Th] in
theorem gW{α:Type}{t:Ft}{c:Fb}{k:SS}{env:En}(f:α->D)(g:α->SV):∀(xs:List α),(∀x∈xs,∃e1,t (f x) env=some e1/\c e1=some true/\k e1=some (g x))->iT t c k env (xs.map f)=some (xs.flatMap g)
 | [],_=>rfl
 | x::xs,h=>by
  obtain⟨e1,h1,h2,h3⟩:=h x (j_ ..);have ih:=gW f g xs λy hy=>h y (i_ _ hy);show(t (f x) env).bind _=_;rw[h1,M_,h2,M_,k_ rfl,h3,M_,ih];rfl
def kids:Pn->List Pn
 | .kn _=>[]
 | .lk _ a b=>[a,b]
theorem CK(d m:D)(n:Int)(ps:List Pn)(hp:∀P∈ps,P.isL=true)(hl:ps.length<=8000000):gf [.F d,.F (.int n),.F (.lst (ps.map Pn.D))]=some (.nx [.F d,.F (.int (n+1)),.F (.lst (((ps.flatMap kids).filter Pn.isL).map Pn.D))]):=by
 have g:=gW (t:=Gs 0 1 2) (c:=λ_=>some true) (k:=ee (ie aw) [3] (bZ 3) S3 (a5 au)) (env:=[.un,.un,.un,.un]) Pn.D (λP=>(kids P).map Pn.D) ps λP hP=>by
  cases P with
  | kn m=>exact absurd (hp _ hP) F_
  | lk p a b=>exact⟨[.F (.str kS),.F (cel p),.F (.lst [a.D,b.D]),.un],rfl,rfl,pW (cm rfl) rfl rfl⟩
 have e1:ps.flatMap (λP=>(kids P).map Pn.D)=(ps.flatMap kids).map Pn.D:=by rw[PC]
 rw[e1]at g;have hk:(ps.flatMap kids).length<=16000000:=by
  have:∀l:List Pn,(l.flatMap kids).length<=2*l.length:=λl=>by
   induction l with
   | nil=>exact h_ _
   | cons x l ih=>
    rw[O7,t_,H_];have:(kids x).length<=2:=by cases x<;>simp[kids]
    lia
  have:=this ps
  lia
 refine(ak (e:=[.F d,.F (.int (n+1)),.F (.lst (ps.map Pn.D))]) rfl).trans ?_;exact aS ((call_v (af (cg (cm rfl) rfl g (by rw[c_];exact hk)) aE)).trans (sQ _ hk))
def qH:List Pn->Nat
 | []=>0
 | P::ps=>max P.dp (qH ps)
omit [Th] in
theorem vJ:∀(l r:List Pn),qH (l++r)=max (qH l) (qH r)
 | [],r=>by rw[O_];show _=max 0 _;lia
 | P::l,r=>by show max _ (qH (l++r))=max (max _ _) _;rw[vJ l r];lia
omit [Th] in
theorem eo:∀(l:List Pn),qH (l.filter Pn.isL)=qH l
 | []=>rfl
 | P::l=>by
  cases P with
  | kn m=>show qH (l.filter Pn.isL)=max 0 (qH l);rw[eo l];lia
  | lk p a b=>show max _ (qH (l.filter Pn.isL))=max _ (qH l);rw[eo l]
omit [Th] in
theorem qK:∀(l:List Pn),(∀P∈l,P.isL=true)->l≠[]->qH l=1+qH (l.flatMap kids)
 | [],_,h=>absurd rfl h
 | P::l,hp,_=>by
  cases P with
  | kn m=>exact absurd (hp _ (j_ ..)) F_
  | lk p a b=>
   rw[O7,vJ];have e:(Pn.lk p a b).dp=1+max a.dp b.dp:=rfl;show max (Pn.lk p a b).dp (qH l)=1+max (max a.dp (max b.dp 0)) (qH (l.flatMap kids));rw[e];cases l with
   | nil=>show max _ 0=1+max _ 0;lia
   | cons Q l=>
    rw[qK (Q::l) (λP hP=>hp P (i_ _ hP)) (by simp)]
    lia
def cnt:Pn->Nat
 | .kn _=>1
 | .lk _ a b=>1+cnt a+cnt b
def fQ:List Pn->Nat
 | []=>0
 | P::l=>cnt P+fQ l
omit [Th] in
theorem rn:∀(l r:List Pn),fQ (l++r)=fQ l+fQ r
 | [],r=>by rw[O_];show _=0+_;lia
 | P::l,r=>by show cnt P+fQ (l++r)=cnt P+fQ l+_;rw[rn l r];lia
omit [Th] in
theorem nU:∀(l:List Pn),fQ (l.flatMap kids)<=fQ l
 | []=>h_ _
 | P::l=>by
  rw[O7,rn];have:=nU l;cases P with
  | kn m=>show 0+_<=1+_;lia
  | lk p a b=>show cnt a+(cnt b+0)+_<=1+cnt a+cnt b+_;lia
omit [Th] in
theorem eC:∀(l:List Pn),fQ (l.filter Pn.isL)<=fQ l/\l.length<=fQ l
 | []=>⟨h_ _,h_ _⟩
 | P::l=>by
  obtain⟨h1,h2⟩:=eC l;cases P with
  | kn m=>exact⟨by show fQ (l.filter Pn.isL)<=1+fQ l;lia,by show l.length+1<=1+fQ l;lia⟩
  | lk p a b=>exact⟨by show cnt (.lk p a b)+fQ (l.filter Pn.isL)<=cnt (.lk p a b)+fQ l;lia,by show l.length+1<=1+cnt a+cnt b+fQ l;lia⟩
theorem oF(d:D):∀(n:Nat)(ps:List Pn)(k:Int),(∀P∈ps,P.isL=true)->fQ ps<=8000000->qH ps<n->∃e,tj n (fT aw) gf [.F d,.F (.int k),.F (.lst (ps.map Pn.D))]=some (.nx [.F d,.F (.int (k+(qH ps:Nat))),e])
 | n+1,[],k,_,_,_=>⟨.F (.lst []),(yu rfl).trans (by show _=some (Out.nx [.F d,.F (.int (k+0)),_]);rw[Int.add_zero];rfl)⟩
 | n+1,P::ps,k,hp,hc,hd=>by
  have e:=qK (P::ps) hp (by simp);have hk:=nU (P::ps);have hf:=eC ((P::ps).flatMap kids);have hf2:=(eC (P::ps)).2;obtain⟨s,q⟩:=oF d n (((P::ps).flatMap kids).filter Pn.isL) (k+1) (λQ hQ=>(OU.mp hQ).2) (by lia) (by rw[eo];lia);refine⟨s,(vc rfl (CK d d k (P::ps) hp (by lia))).trans (q.trans ?_)⟩;rw[eo,e];congr 4
  lia
theorem uH(P:Pn)(h:P.dp<70)(hc:cnt P<=8000000):m_depth_of [P.D]=some (.int (P.dp:Nat)):=by
 have e0:qH ([P].filter Pn.isL)=P.dp:=by rw[eo];show max P.dp 0=_;lia
 have hf:=eC [P];have hc1:fQ [P]=cnt P:=by show cnt P+0=_;lia
 obtain⟨s,q⟩:=oF P.D 70 ([P].filter Pn.isL) 0 (λQ hQ=>(OU.mp hQ).2) (by lia) (by rw[e0];exact h);rw[e0,Int.zero_add]at q;exact aV ((ak (aS rfl)).trans ((ak (aS ((call_v (af (oe (af rfl aE)) aE)).trans (sQ [P] (by simp))))).trans ((ak q).trans rfl)))
def wI(h:List Sh):List Pt:=h.flatMap Sh.cs
def fD(h:List Sh):List Pt:=nv (wI h)
omit [Th] in
theorem uT{h:List Sh}{p:Pt}:p∈wI h↔m7 h p=true:=by
 unfold wI m7;rw[PF,R0];exact⟨λ⟨s,h1,h2⟩=>⟨s,h1,v_ h2⟩,λ⟨s,h1,h2⟩=>⟨s,h1,OD h2⟩⟩
theorem lQ:∀{h:List Sh},Apart h->(wI h).Nodup
 | [],_=>RD
 | s::h,ap=>by
  obtain⟨a1,a2⟩:=ON.mp ap;show(s.cs++wI h).Nodup;refine List.nodup_append.mpr ⟨zf s,lQ a2,λp hp q hq e=>?_⟩;subst e;obtain⟨t,h1,h2⟩:=PF.mp hq;exact a1 t h1 p hp h2
structure HC(R C:Nat)(h:List Sh):Prop where
 ap:Apart h
 len:h.length<=3
 sz:∀s∈h,1<=s.n/\s.n<=4
 on:∀p,m7 h p=true->p∈qG R C
omit [Th] in
theorem pK{R C:Nat}{p:Pt}:p∈qG R C↔0<=p.1/\p.1<R/\0<=p.2/\p.2<C:=by
 unfold qG;rw[PF];constructor
 .rintro⟨i,hi,h⟩;obtain⟨j,hj,rfl⟩:=x_.mp h;have:=Ov.mp hi;have:=Ov.mp hj;dsimp only
  lia
 .rintro⟨h1,h2,h3,h4⟩;refine⟨p.1.toNat,Ov.mpr (by lia),x_.mpr ⟨p.2.toNat,Ov.mpr (by lia),?_⟩⟩;obtain⟨a,b⟩:=p;simp only at *;rw[Qe]
  lia
omit [Th] in
theorem pC{R C:Nat}(hR:R<=4)(hC:C<=5){p:Pt}(h:p∈qG R C):okP p:=by
 obtain⟨h1,h2,h3,h4⟩:=pK.mp h;exact⟨h1,by lia,h3,by lia⟩
theorem HC.okP{R C:Nat}(hR:R<=4)(hC:C<=5){h:List Sh}(H:HC R C h):∀p∈wI h,Mi.okP p:=λp hp=>pC hR hC (H.on p (uT.mp hp))
theorem HC.mem{R C:Nat}(hR:R<=4)(hC:C<=5){h:List Sh}(H:HC R C h){p:Pt}:p∈fD h↔m7 h p=true:=by
 unfold fD;rw[fO (H.okP hR hC),uT]
theorem zq{h:List Sh}(h3:h.length<=3)(hs:∀s∈h,s.n<=4):(wI h).length<=12:=by
 have:∀l:List Sh,(∀s∈l,s.n<=4)->(wI l).length<=4*l.length:=λl hl=>by
  induction l with
  | nil=>exact h_ _
  | cons s l ih=>
   show(s.cs++wI l).length<=_;rw[t_,tX,H_];have:=ih λt ht=>hl t (i_ _ ht);have:=hl s (j_ ..)
   lia
 have:=this h hs
 lia
theorem B8:eh=kk:=rfl
theorem mj(L:List Pt)(ok:∀p∈L,Mi.okP p)(nd:L.Nodup)(hl:L.length<64):sF (.lst (L.map cel))=some (.lst ((nv L).map cel)):=by
 obtain⟨o1,o2⟩:=nT (nv L) L (gX ok nd) (λp hp=>ok p ((fO ok).mp hp)) (tI _);show(jY (L.map cel)).bind _=_;rw[mR];show(if _ then _ else none)=_;rw[B8,k_ ⟨by rw[c_];exact hl,o2⟩];congr 2;rw[<- o1,OA];refine P3 λi hi=>?_;have hi':=kW i hi;rw[c_]at hi';show(L.map cel).getD i .non=cel (L.getD i (0,0));rw[g_,g_,m_,f_ hi'];rfl
theorem sN{R C:Nat}(hR:R<=4)(hC:C<=5){h:List Sh}(H:HC R C h):m_lying_cells [aC h]=some (.lst ((fD h).map cel)):=by
 have hl:=zq H.len λs hs=>(H.sz s hs).2;have g:=gW (t:=bZ 0) (c:=λ_=>some true) (k:=ee (ie (λenv=>((aa aj fNil) env).bind m_cells_of)) [1] (bZ 1) S3 (a5 ah)) (env:=[.un,.un]) Sh.d (λs=>s.cs.map cel) h λs hs=>by
  refine⟨[.F s.d,.un],rfl,rfl,pW (cm ((call_v (af rfl aE)).trans (uj s (by have:=(H.sz s hs).2;lia)))) rfl ?_⟩;exact dg (t:=bZ 1) (k:=a5 ah) (env:=[.F s.d,.un]) cel cel s.cs λp _=>⟨[.F s.d,.F (cel p)],rfl,rfl⟩
 have e:h.flatMap (λs=>s.cs.map cel)=(wI h).map cel:=by unfold wI;rw[PC]
 rw[e]at g;refine aV (bu ((jD (cg (Ew rfl) rfl g (by rw[c_];lia))).trans ?_));exact mj (wI h) (H.okP hR hC) (lQ H.ap) (by lia)
theorem oO:∀(xs ys:List Pt),gC (xs.map cel) (ys.map cel)=decide (xs=ys)
 | [],[]=>rfl
 | [],y::ys=>rfl
 | x::xs,[]=>rfl
 | x::xs,y::ys=>by
  show gC (cel x::xs.map cel) (cel y::ys.map cel)=_;unfold gC;rw[oO xs ys,uL,OM];simp
theorem vm(xs:List Pt):pl (.lst (xs.map cel))=true:=by unfold pl;exact vT xs
theorem yO{f g:Fe}{env:En}{xs ys:List Pt}(h1:f env=some (.lst (xs.map cel)))(h2:g env=some (.lst (ys.map cel))):ai cy f g env=some (.bl (decide (xs=ys))):=
 FK h1 h2 (Fq (An xs) (by rw[vm,vm];rfl)) (by rw[ib];exact oO xs ys)
def iW(n:Nat):List (Nat×Nat):=(List.range n).flatMap λo=>(List.range o).map λi=>(i,o)
def pD(q:Nat×Nat):D:=.tup [.int (q.1:Nat),.int (q.2:Nat)]
omit [Th] in
theorem qd{n:Nat}{q:Nat×Nat}(h:q∈iW n):q.1<q.2/\q.2<n:=by
 unfold iW at h;obtain⟨o,h1,h2⟩:=PF.mp h;obtain⟨i,h3,rfl⟩:=x_.mp h2;exact⟨Ov.mp h3,Ov.mp h1⟩
omit [Th] in
theorem sg:∀n:Fin 7,(iW n).length<64:=by decide
def bD(L:List Pt):D:=.lst (L.map cel)
omit [Th] in
theorem CW:∀n:Fin 7,(iW n).Nodup:=by decide
omit [Th] in
theorem yS{n i o:Nat}(h1:i<o)(h2:o<n):(i,o)∈iW n:=PF.mpr ⟨o,Ov.mpr h2,x_.mpr ⟨i,Ov.mpr h1,rfl⟩⟩
omit [Th] in
theorem IG(n:Nat):aI 0 n=(List.range n).map λ(i:Nat)=>D.int (i:Int):=by unfold aI;simp
def Dd(q:Nat×Nat):Pt:=((q.1:Nat),(q.2:Nat))
theorem yr(n:Nat)(hn:n<=6){env:En}{f:Fe}(h:bc bY f env=some (.int (n:Nat))):bG (dM (bc bY f)) [0] (bZ 0) S3 (ee (dM aj) [1] (bZ 1) S3 (a5 (aP (aa ah (aa aj fNil))))) 2 [] env=some (.lst ((iW n).map pD)):=by
 have g:=gW (t:=bZ 0) (c:=λ_=>some true) (k:=ee (dM aj) [1] (bZ 1) S3 (a5 (aP (aa ah (aa aj fNil))))) (env:=[.un,.un]) (λ(i:Nat)=>D.int (i:Int)) (λo=>(List.range o).map λi=>pD (i,o)) (List.range n) λo ho=>by
  have ho':=Ov.mp ho;refine⟨[.F (.int (o:Nat)),.un],rfl,rfl,pW (dB (n:=o) rfl (by lia)) rfl ?_⟩;rw[IG];exact dg (t:=bZ 1) (k:=a5 (aP (aa ah (aa aj fNil)))) (env:=[.F (.int (o:Nat)),.un]) (λ(i:Nat)=>D.int (i:Int)) (λi=>pD (i,o)) (List.range o) λi _=>⟨[.F (.int (o:Nat)),.F (.int (i:Nat))],rfl,rfl⟩
 have e:((List.range n).flatMap λo=>(List.range o).map λi=>pD (i,o))=(iW n).map pD:=by
  unfold iW;rw[PC];congr 1;funext o;rw[OA];rfl
 rw[e]at g;have hl:=sg ⟨n,by lia⟩;refine cg (dB h (by lia)) rfl ?_ (by rw[c_];exact Pl (E_ hl (by decide)));rw[IG];exact g
theorem oA{Bs:List (List Pt)}{i:Nat}(hi:i<Bs.length):L2.atI (Bs.map bD) (i:Int)=some (bD (Bs.getD i [])):=dh (by rw[m_,f_ hi,g_,f_ hi];rfl)
theorem yV(Bs:List (List Pt))(hb:Bs.length<=6):∃es:List Pt,m_alike_pairs [.lst (Bs.map bD)]=some (.lst (es.map cel))/\(es=[]↔Bs.Nodup):=by
 let p:Nat×Nat->Bool:=λq=>decide (Bs.getD q.1 []=Bs.getD q.2 [])
 have g:=gK (t:=md [0,1]) (c:=fB (ai cy (ai ay aw aj) (ai ay aw ah))) (k:=a5 (aP (aa aj (aa ah fNil)))) (env:=[.un,.un,.F (.lst (Bs.map bD))]) pD pD p (iW Bs.length) λq hq=>by
  obtain⟨h1,h2⟩:=qd hq;exact⟨[.F (.int (q.1:Nat)),.F (.int (q.2:Nat)),.F (.lst (Bs.map bD))],rfl,dO (yO (ez rfl rfl (oA (by lia))) (ez rfl rfl (oA h2))),λ_=>rfl⟩
 have hl:=sg ⟨Bs.length,by lia⟩;have hnd:=CW ⟨Bs.length,by lia⟩;have hfl:=OY p (iW Bs.length);have inj:∀a b:Nat×Nat,Dd a=Dd b->a=b:=λa b e=>by
  obtain⟨a1,a2⟩:=a;obtain⟨b1,b2⟩:=b;simp only[Dd,Qe]at e ⊢
  lia
 have ok:∀x∈((iW Bs.length).filter p).map Dd,Mi.okP x:=λx hx=>by
  obtain⟨q,hq,rfl⟩:=x_.mp hx;obtain⟨h1,h2⟩:=qd (OU.mp hq).1;exact⟨by show(0:Int)<=(q.1:Nat);lia,by show((q.1:Nat):Int)<64;lia,by show(0:Int)<=(q.2:Nat);lia,by show((q.2:Nat):Int)<64;lia⟩
 have nd:(((iW Bs.length).filter p).map Dd).Nodup:=by
  rw[List.Nodup,O6];exact(hnd.filter _).imp λh e=>h (inj _ _ e)
 have srt:=mj (((iW Bs.length).filter p).map Dd) ok nd (by rw[c_];exact QL hfl hl);rw[OA]at srt;refine⟨nv (((iW Bs.length).filter p).map Dd),aV ((ak (aS (yr Bs.length hb ((gA rfl).trans (by rw[c_]))))).trans (bu ((jD (cg (cm rfl) rfl g (by rw[c_];exact C_ hfl (Pl (E_ hl (by decide)))))).trans srt))),?_⟩;constructor
 .intro h;refine OQ.mpr λi j hi hj yg e=>?_;have:Dd (i,j)∈nv (((iW Bs.length).filter p).map Dd):=(fO ok).mpr (x_.mpr ⟨(i,j),OU.mpr ⟨yS yg hj,v_ (by rw[g_,g_,f_ hi,f_ hj];exact e)⟩,rfl⟩);rw[h]at this;cases this
 .intro h;refine List.eq_nil_iff_forall_not_mem.mpr λx hx=>?_;obtain⟨q,hq,rfl⟩:=x_.mp ((fO ok).mp hx);obtain⟨h1,h2⟩:=OU.mp hq;obtain⟨h3,h4⟩:=qd h1;have e:=OD h2;rw[g_,g_,f_ h4,f_ (Qn h3 h4)]at e;exact OQ.mp h q.1 q.2 _ h4 h3 e
def oY:List Bool->Nat
 | []=>0
 | b::r=>(if b=true then 1 else 0)+2*oY r
omit [Th] in
theorem ox(b:Bool)(r:List Bool):oY (b::r)=(if b=true then 1 else 0)+2*oY r:=rfl
omit [Th] in
theorem sA:∀(bs:List Bool)(k:Nat),(oY bs).testBit k=bs.getD k false
 | [],k=>by simp[oY]
 | b::r,0=>by
  rw[Nat.testBit_zero];rw[ox];cases b<;>simp<;>lia
 | b::r,k+1=>by
  rw[Nat.testBit_succ,show oY (b::r)/2=oY r by rw[ox];split<;>lia,sA r k];rfl
def tf(Bs:List (List Pt))(p:Pt):Nat:=oY (Bs.map λL=>decide (p∈L))
def nums:Nat->List (List Pt)->List (Nat×List Pt)
 | _,[]=>[]
 | k,L::r=>(k,L)::nums (k+1) r
def nD(x:Nat×List Pt):D:=.tup [.int (x.1:Nat),bD x.2]
omit [Th] in
theorem nV:∀(k:Nat)(Bs:List (List Pt)),iq k (Bs.map bD)=(nums k Bs).map nD
 | _,[]=>rfl
 | k,L::r=>by
  show D.tup [.int (k:Int),bD L]::iq (k+1) (r.map bD)=nD (k,L)::(nums (k+1) r).map nD;rw[nV (k+1) r];rfl
omit [Th] in
theorem uX:∀{k:Nat}{Bs:List (List Pt)}{x:Nat×List Pt},x∈nums k Bs->x.1<k+Bs.length
 | _,[],_,h=>by cases h
 | k,L::r,x,h=>by
  rcases s_.mp h with rfl | h
  .show k<_;simp
  .have:=uX h;rw[H_];lia
omit [Th] in
theorem rH(p:Pt):∀(k:Nat)(Bs:List (List Pt)),((((nums k Bs).filter λx=>decide (p∈x.2)).map λx=>(2:Int) ^ x.1).sum)=((2 ^ k*tf Bs p:Nat):Int)
 | k,[]=>by show(0:Int)=_;unfold tf oY;simp
 | k,L::r=>by
  have ih:=rH p (k+1) r;have e:tf (L::r) p=(if decide (p∈L)=true then 1 else 0)+2*tf r p:=rfl;show(((List.filter _ ((k,L)::nums (k+1) r)).map λx=>(2:Int) ^ x.1).sum)=_;rw[e,P5]
  by_cases h:p∈L
  .rw[k_ (v_ h),k_ (v_ h),G_,List.sum_cons,ih];rw[P6,Rf,Nat.mul_one,Int.natCast_add,Int.natCast_pow];congr 2;rw[<- Qd]
  .rw[l_ (by simpa using h),l_ (by simpa using h),ih,P6,Oy,<- Qd]
theorem JM(Bs:List (List Pt))(hb:Bs.length<=6)(p:Pt)(s1:Slot):bc BX (bG (yi aj) [0,1] (md [0,1]) (fB (ai (D3 false) aw ah)) (a5 (ai oZ SZ aj)) 2 [2]) [.F (.lst (Bs.map bD)),s1,.F (cel p)]=some (.int (tf Bs p:Nat)):=by
 have g:=gK (t:=md [0,1]) (c:=fB (ai (D3 false) aw ah)) (k:=a5 (ai oZ SZ aj)) (env:=[.un,.un,.F (cel p)]) nD (λx=>D.int ((2:Int) ^ x.1)) (λx=>decide (p∈x.2)) (nums 0 Bs) λx hx=>by
  have:=uX hx;refine⟨[.F (.int (x.1:Nat)),.F (bD x.2),.F (cel p)],rfl,dO (DZ (p:=p) (cs:=x.2) rfl rfl),λ_=>i0 ?_⟩;refine(az rfl rfl).trans ?_;show(if decide (0<=((x.1:Nat):Int)/\((x.1:Nat):Int)<=1000000/\(1:Int).natAbs<2 ^ 64)=true then some (D.int (1*2 ^ ((x.1:Nat):Int).toNat))else none)=_;rw[k_ (v_ ⟨by lia,by lia,by decide⟩),Int.one_mul,OC]
 have hl:(nums 0 Bs).length=Bs.length:=by
  have:∀(k:Nat)(l:List (List Pt)),(nums k l).length=l.length:=λk l=>by
   induction l generalizing k with
   | nil=>rfl
   | cons L l ih=>show(nums (k+1) l).length+1=_;rw[ih];rfl
  exact this 0 Bs
 have hf:=OY (λx:Nat×List Pt=>decide (p∈x.2)) (nums 0 Bs);have c1:=cg (fi:=yi aj) (env:=[.F (.lst (Bs.map bD)),s1,.F (cel p)]) (pN rfl) (n:=2) (caps:=[2]) (is:=[0,1]) rfl (by rw[nV];exact g) (by rw[c_];lia);rw[show ∀l:List (Nat×List Pt),(l.map λx=>D.int ((2:Int) ^ x.1))=(l.map λx=>(2:Int) ^ x.1).map D.int from λl=>by rw[OA];rfl]at c1;refine(jD c1).trans ?_;show(ju _).bind _=_;rw[jX];show some (D.int _)=_;rw[rH p 0 Bs,Nat.pow_zero,Nat.one_mul]
def bx(ls:Sy)(vs:List Pt):D:=.ix Th.h (ls.map λn=>Sum.inl ((n:Nat):Int)) (vs.map cel)
def Bf(ls:Sy)(vs:List Pt):qE:=.I Th.h (ls.map λn=>Sum.inl ((n:Nat):Int)) (vs.map cel)
omit [Th] in
theorem vh{ls:Sy}{n:Nat}:(Sum.inl ((n:Nat):Int):L2.Key)∈ls.map (λn=>Sum.inl ((n:Nat):Int))↔n∈ls:=by
 rw[x_];constructor
 .rintro⟨m,h,e⟩;have:(m:Int)=n:=Sum.inl.inj e;rw[show n=m by lia];exact h
 .exact λh=>⟨n,h,rfl⟩
open Classical in
theorem HM{fk fx:Fe}{env:En}{i n:Nat}{p:Pt}{ls:Sy}{vs:List Pt}(hk:fk env=some (.int (n:Nat)))(hx:fx env=some (cel p))(he:env[i]?=some (.O (Bf ls vs)))(hl:vs.length=ls.length)(hz:ls.length<1000) :
  GS Th.h i fk fx env=some (.nx (env.set i (.O (if n∈ls then Bf ls vs else Bf (ls++[n]) (vs++[p]))))):=by
 show(fk env).bind _=_;rw[hk,M_,hx,M_];show(match env[i]? with | some (.O (.I yb ks ds))=>if yb=Th.h/\ks.length<16000000/\ds.length=ks.length then some (Out.nx (env.set i (.O (if(Sum.inl ((n:Nat):Int):L2.Key)∈ks then .I Th.h ks ds else .I Th.h (ks++[Sum.inl ((n:Nat):Int)]) (ds++[cel p])))))else none | _=>none)=_;rw[he];show(if Th.h=Th.h/\(ls.map λn=>(Sum.inl ((n:Nat):Int):L2.Key)).length<16000000/\(vs.map cel).length=(ls.map λn=>(Sum.inl ((n:Nat):Int):L2.Key)).length then _ else none)=_;rw[k_ ⟨rfl,by rw[c_];lia,by rw[c_,c_,hl]⟩];congr 4
 by_cases h:n∈ls
 .rw[k_ (vh.mpr h),k_ h];rfl
 .rw[l_ (λz=>h (vh.mp z)),l_ h];unfold Bf;rw[OB,OB];rfl
def yh(Bs:List (List Pt)):List Pt:=nv (qJ Bs.flatten)
structure Ho(R C:Nat)(Bs:List (List Pt)):Prop where
 r:R<=4
 c:C<=5
 len:Bs.length<=6
 on:∀L∈Bs,∀p∈L,p∈qG R C
 few:∀L∈Bs,L.length<=100
theorem Ho.ok{R C:Nat}{Bs:List (List Pt)}(H:Ho R C Bs):∀p∈qJ Bs.flatten,Mi.okP p:=λp hp=>by
 obtain⟨L,h1,h2⟩:=R6.mp ((jd _ _).mp hp);exact pC H.r H.c (H.on L h1 p h2)
theorem Ho.mem{R C:Nat}{Bs:List (List Pt)}(H:Ho R C Bs){p:Pt}:p∈yh Bs↔∃L∈Bs,p∈L:=by
 unfold yh;rw[fO H.ok,jd,R6]
theorem Av(l:List Pt):(qJ l).Nodup:=by
 have:∀(l acc:List Pt),acc.Nodup->(l.foldl il acc).Nodup:=λl=>by
  induction l with
  | nil=>exact λacc h=>h
  | cons x l ih=>exact λacc h=>ih _ (zb h x)
 exact this l [] RD
theorem Ho.len20{R C:Nat}{Bs:List (List Pt)}(H:Ho R C Bs):(qJ Bs.flatten).length<=20/\(yh Bs).length<=20:=by
 have s:=EU ⟨R,by have:=H.r;lia⟩ ⟨C,by have:=H.c;lia⟩;have e1:(qJ Bs.flatten).Perm ((qG R C).filter λp=>decide (p∈qJ Bs.flatten)):=(Qk (Av _) (s.1.filter _)).mpr λp=>by
  rw[OU,w_];refine⟨λh=>⟨?_,h⟩,λh=>h.2⟩;obtain⟨L,h1,h2⟩:=R6.mp ((jd _ _).mp h);exact H.on L h1 p h2
 have e2:=OY (λp=>decide (p∈qJ Bs.flatten)) (qG R C);have e3:(qJ Bs.flatten).length<=20:=by rw[e1.length_eq];exact C_ e2 s.2
 refine⟨e3,?_⟩;unfold yh;rw[<- (gX H.ok (Av _)).length_eq];exact e3
theorem Ce{R C:Nat}{Bs:List (List Pt)}(H:Ho R C Bs)(s1 s2:Slot):uc (ie aj) [0] (bZ 0) S3 (ee (ie aj) [1] (bZ 1) S3 (oN ah)) 2 [] [.F (.lst (Bs.map bD)),s1,s2]=some (.lst ((yh Bs).map cel)):=by
 have g:=gW (t:=bZ 0) (c:=λ_=>some true) (k:=ee (ie aj) [1] (bZ 1) S3 (oN ah)) (env:=[.un,.un]) bD (λL=>L.map cel) Bs λL hL=>by
  refine⟨[.F (bD L),.un],rfl,rfl,pW (cm rfl) rfl ?_⟩;refine dg (t:=bZ 1) (k:=oN ah) (env:=[.F (bD L),.un]) cel cel L λp hp=>⟨[.F (bD L),.F (cel p)],rfl,?_⟩;obtain⟨h1,h2,h3,h4⟩:=pC H.r H.c (H.on L hL p hp);show(if 0<=p.1/\p.1<64/\0<=p.2/\p.2<64 then some [D.tup [.int p.1,.int p.2]]else none)=_;rw[k_ ⟨h1,h2,h3,h4⟩];rfl
 have e:Bs.flatMap (λL=>L.map cel)=Bs.flatten.map cel:=by rw[List.flatMap,List.map_flatten]
 rw[e]at g;have hl:Bs.flatten.length<=600:=by
  have:∀l:List (List Pt),(∀L∈l,L.length<=100)->l.flatten.length<=100*l.length:=λl hl=>by
   induction l with
   | nil=>exact h_ _
   | cons L l ih=>
    rw[Ph,t_,H_];have:=ih λt ht=>hl t (i_ _ ht);have:=hl L (j_ ..)
    lia
  have:=this Bs H.few;have:=H.len
  lia
 have l20:=H.len20.1;show(some (Bs.map bD)).bind _=_;rw[M_];show(iT _ _ _ _ _).bind _=_;rw[show cW 2 [] [Slot.F (.lst (Bs.map bD)),s1,s2]=[.un,.un]from rfl,g];show(if _ then _ else none)=_;rw[k_ (by rw[c_];lia),rm (f:=cel) (λ_=>rfl)];show(if _ then _ else none)=_;rw[k_ (by lia)];rfl
structure MR(Bs:List (List Pt))(cs:List Pt)(ls:List Nat)(vs:List Pt):Prop where
 len:vs.length=ls.length
 all:∀p∈cs,tf Bs p∈ls
 own:∀l∈ls,∃p,l=tf Bs p
theorem xm{R C:Nat}{Bs:List (List Pt)}(H:Ho R C Bs):∃ls vs,m_cells_by_lot [.lst (Bs.map bD)]=some (bx ls vs)/\MR Bs (yh Bs) ls vs/\ls.length<=20:=by
 have l20:=H.len20.2;obtain⟨e2,h1,ls,vs,s2,rfl,h2,h3⟩:=df (t:=bZ 2) (body:=fg) (λj e=>∃ls vs s2,e=[.F (.lst (Bs.map bD)),.O (Bf ls vs),s2]/\MR Bs ((yh Bs).take j) ls vs/\ls.length<=j) ((yh Bs).map cel) 0 [.F (.lst (Bs.map bD)),.O (Bf [] []),.un] ⟨[],[],.un,rfl,⟨rfl,λp hp=>by simp at hp,λl hl=>by cases hl⟩,h_ _⟩ λi d e hd aG=>by
  obtain⟨ls,vs,s2,he,h2,h3⟩:=aG;subst he;rw[m_]at hd;obtain⟨p,hp,rfl⟩:=Ow.mp hd;have hi:=(o_.mp hp).1;rw[Oy]at h2 h3 ⊢;have dv:=HM (i:=1) (env:=[.F (.lst (Bs.map bD)),.O (Bf ls vs),.F (cel p)]) (fx:=λenv=>bf env 2) (JM Bs H.len p (.O (Bf ls vs))) rfl rfl h2.len (by lia);have tk:(yh Bs).take (i+1)=(yh Bs).take i++[p]:=by rw[PX,hp];rfl
  by_cases hm:tf Bs p∈ls
  .rw[k_ hm]at dv;refine⟨_,fM (e0:=[.F (.lst (Bs.map bD)),.O (Bf ls vs),.F (cel p)]) rfl dv,ls,vs,.F (cel p),rfl,⟨h2.len,λq hq=>?_,h2.own⟩,by lia⟩;rw[tk]at hq;rcases Oz.mp hq with z | z
   .exact h2.all q z
   .rw[u_.mp z];exact hm
  .rw[l_ hm]at dv;refine⟨_,fM (e0:=[.F (.lst (Bs.map bD)),.O (Bf ls vs),.F (cel p)]) rfl dv,ls++[tf Bs p],vs++[p],.F (cel p),rfl,⟨by rw[t_,t_,h2.len];rfl,λq hq=>?_,λl hl=>?_⟩,by rw[t_];simp;lia⟩
   .rw[tk]at hq;rcases Oz.mp hq with z | z
    .exact Rg _ (h2.all q z)
    .rw[u_.mp z];exact B_ _ (u_.mpr rfl)
   .rcases Oz.mp hl with z | z
    .exact h2.own l z
    .exact⟨p,u_.mp z⟩
 rw[c_,Oy,O3]at h2;rw[c_,Oy]at h3;refine⟨ls,vs,aV ((ak rfl).trans ((ak ((cF (cm (Ce H _ _))).trans h1)).trans rfl)),h2,by lia⟩
def yj(dv:Sz)(l s:Nat):Int:=if dv.getD (l-(l &&& s)) 0>dv.getD (l &&& s) 0 then dv.getD (l-(l &&& s)) 0 else dv.getD (l &&& s) 0
def iD(dv:Sz):D:=.lst (dv.map .int)
omit [Th] in
theorem zx{f g:Fe}{env:En}{dv:Sz}{i:Nat}(h1:f env=some (iD dv))(h2:g env=some (.int (i:Nat)))(hi:i<dv.length):ai ay f g env=some (.int (dv.getD i 0)):=ez h1 h2 (dh (by rw[m_,f_ hi,g_,f_ hi];rfl))
theorem ot(dv:Sz)(l s:Nat)(hl:l<dv.length):m_depth_behind [.int (s:Nat),.int (l:Nat),iD dv]=some (.int (yj dv l s)):=by
 have hle:l &&& s<=l:=Nat.and_le_left;have b1:ai cS ah aj (aT 3 [.int (s:Nat),.int (l:Nat),iD dv])=some (.int ((l &&& s:Nat):Int)):=(az rfl rfl).trans (jm l s);have b2:ai subI ah (ai cS ah aj) (aT 3 [.int (s:Nat),.int (l:Nat),iD dv])=some (.int ((l-(l &&& s):Nat):Int)):=(az rfl b1).trans (by show some (D.int _)=_;congr 2;lia);exact aV (bu ((az (zx rfl b1 (by lia)) (zx rfl b2 (by lia))).trans rfl))
def uz(ls:Sy)(l:Nat):Sy:=ls.filter λs=>decide ((0:Int)<((l &&& s:Nat):Int))&&decide (((l &&& s:Nat):Int)<(l:Nat))
omit [Th] in
theorem vF{ls:Sy}{l s:Nat}:s∈uz ls l↔s∈ls/\0<l &&& s/\l &&& s<l:=by
 unfold uz;rw[OU,A_,w_,w_];exact and_congr Iff.rfl (and_congr (by lia) (by lia))
def nI(n:Nat):D:=.int (n:Int)
theorem Js{f:Fe}{env:En}{ls:Sy}{vs:List Pt}(h:f env=some (bx ls vs)):Ku Th.h f env=some (ls.map nI):=by
 show(f env).bind _=_;rw[h,M_];unfold bx;rw[Ei,M_];have hk:KH (ls.map λn=>(Sum.inl ((n:Nat):Int):L2.Key))=true:=by
  unfold KH;rw[Sb,I_];intro x _;rfl
 show(if KH (ls.map λn=>(Sum.inl ((n:Nat):Int):L2.Key))=true then some ((ls.map λn=>(Sum.inl ((n:Nat):Int):L2.Key)).map kD)else none)=_;rw[k_ hk,OA];rfl
omit [Th] in
theorem q9(g:D->SW)(m:Nat->Int):∀L:Sy,(∀p∈L,g (nI p)=some (.int (m p)))->oM g (L.map nI)=some (L.map m)
 | [],_=>rfl
 | x::L,h=>by
  show(g (nI x)).bind _=_;rw[h x (j_ ..),M_];show(oM g (L.map nI)).bind _=_;rw[q9 g m L λp hp=>h p (i_ _ hp)];rfl
omit [Th] in
theorem wy(ns:Sz)(h:ns≠[]):jP ns<ns.length:=by
 refine List.findIdx_lt_length.mpr ?_;have:∀ns:Sz,ns≠[]->∃x∈ns,∀y∈ns,x<=y:=by
  intro ns
  induction ns with
  | nil=>intro h;exact absurd rfl h
  | cons n ns ih=>
   intro _
   by_cases hz:ns=[]
   .subst hz;exact⟨n,by simp,λy hy=>by rw[u_.mp hy];exact QQ _⟩
   .obtain⟨x,h1,h2⟩:=ih hz
    by_cases hx:n<=x
    .exact⟨n,by simp,λy hy=>by
      rcases s_.mp hy with rfl | hy
      .exact QQ _
      .exact QX hx (h2 y hy)⟩
    .exact⟨x,i_ _ h1,λy hy=>by
      rcases s_.mp hy with rfl | hy
      .lia
      .exact h2 y hy⟩
 obtain⟨x,h1,h2⟩:=this ns h;exact⟨x,h1,I_.mpr λy hy=>v_ (h2 y hy)⟩
theorem rE(ls:Sy)(vs:List Pt)(dv:Sz)(l:Nat)(hl:l<dv.length)(Hq:ls.length<=1000)(hp:uz ls l≠[]):∃s∈uz ls l,m_best_shown [.int (l:Nat),bx ls vs,iD dv]=some (.int (s:Nat)):=by
 have g:=gK (t:=bZ 0) (c:=fB (DM ltI ltI SY (ai cS ah aj) ah)) (k:=a5 aj) (env:=[.un,.F (.int (l:Nat))]) nI nI (λs=>decide ((0:Int)<((l &&& s:Nat):Int))&&decide (((l &&& s:Nat):Int)<(l:Nat))) ls λs _=>⟨[.F (nI s),.F (.int (l:Nat))],rfl,dO (IU rfl ((az rfl rfl).trans (jm l s)) rfl rfl rfl),λ_=>rfl⟩;have iO:(uz ls l).length<=1000:=C_ (OY _ _) Hq;have c1:=cg (fi:=Ku Th.h ah) (env:=[.F (.int (l:Nat)),.F (bx ls vs),.F (iD dv),.un]) (Js rfl) (n:=1) (caps:=[0]) (is:=[0]) rfl g (by rw[c_];exact C_ iO (by decide));have hk:=q9 (λx=>((aa aj (aa ah (aa aw fNil))) ((cW 1 [0,2] [.F (.int (l:Nat)),.F (bx ls vs),.F (iD dv),.F (.lst ((uz ls l).map nI))]).set 0 (.F x))).bind m_depth_behind) (yj dv l) (uz ls l) λs _=>ot dv l s hl;have hlt:=wy ((uz ls l).map (yj dv l)) (by intro z;exact hp (Ru.mp z));rw[c_]at hlt;refine⟨(uz ls l)[jP ((uz ls l).map (yj dv l))],OL hlt,aV ((ak (aS c1)).trans (bu ?_))⟩;show DX _ (.lst ((uz ls l).map nI))=_;refine(show _=_ from OZ (λo=>Option.bind o λns=>((uz ls l).map nI)[jP ns]?) hk).trans ?_;show((uz ls l).map nI)[jP ((uz ls l).map (yj dv l))]?=_;rw[m_,f_ hlt];rfl
def Sep(ls:Sy)(N:Nat):Prop:=∀l,l<N->l &&& (l-1)≠0->uz ls l≠[]
omit [Th] in
theorem zd:∀l:Fin 64,l.val &&& (l.val-1)≠0->∃i j:Fin 6,i.val<j.val/\l.val.testBit i.val=true/\l.val.testBit j.val=true:=by decide +kernel
omit [Th] in
theorem Dm{ps qs:List Pt}(h:∀p,p∈nv ps↔p∈nv qs):nv ps=nv qs:=by
 unfold nv at h ⊢;refine List.filter_congr λp hp=>?_;have:=h p;rw[OU,OU,w_,w_]at this;rw[OM,w_,w_];exact⟨λz=>(this.mp ⟨hp,z⟩).2,λz=>(this.mpr ⟨hp,z⟩).2⟩
theorem F8{R C:Nat}{Bs:List (List Pt)}(H:Ho R C Bs)(hB:∀L∈Bs,∃x,L=nv x)(nd:Bs.Nodup){ls:Sy}{vs:List Pt}(ix:MR Bs (yh Bs) ls vs):Sep ls (2 ^ Bs.length):=by
 intro l hl h2;have h6:=H.len;have Bu:l<64:=E_ hl (O1 (by decide) h6);obtain⟨i,j,yg,b1,b2⟩:=zd ⟨l,Bu⟩ h2;have hj:j.val<Bs.length:=by
  rcases Nat.lt_or_ge j.val Bs.length with z | z
  .exact z
  .have:=Nat.testBit_lt_two_pow (E_ hl (O1 (by decide:0<2) z));rw[show(⟨l,Bu⟩:Fin 64).val.testBit j.val=l.testBit j.val from rfl,this]at b2;cases b2
 have hi:i.val<Bs.length:=Qn yg hj;have hne:Bs[i.val]≠Bs[j.val]:=OQ.mp nd i.val j.val hi hj yg;obtain⟨x,ex⟩:=hB _ (OL hi);obtain⟨y,ey⟩:=hB _ (OL hj);have:∃p,¬(p∈Bs[i.val]↔p∈Bs[j.val]):=Qr λz=>hne (by
  rw[ex,ey];refine Dm λp=>?_;rw[<- ex,<- ey];exact Qr λw=>z ⟨p,w⟩)
 obtain⟨p,hp⟩:=this;have qC:p∈yh Bs:=H.mem.mpr (by
  by_cases NZ:p∈Bs[i.val]
  .exact⟨_,OL hi,NZ⟩
  .by_cases N0:p∈Bs[j.val]
   .exact⟨_,OL hj,N0⟩
   .exact absurd ⟨λz=>absurd z NZ,λz=>absurd z N0⟩ hp)
 have bit:∀k,(hk:k<Bs.length)->(tf Bs p).testBit k=decide (p∈Bs[k]):=λk hk=>by
  unfold tf;rw[sA,g_,m_,f_ hk];rfl
 refine List.ne_nil_of_mem (a:=tf Bs p) (vF.mpr ⟨ix.all p qC,?_,?_⟩)
 .refine Nat.pos_of_ne_zero λz=>?_;have t1:(l &&& tf Bs p).testBit i.val=decide (p∈Bs[i.val]):=by rw[Rt,bit _ hi,show l.testBit i.val=true from b1,Re]
  have t2:(l &&& tf Bs p).testBit j.val=decide (p∈Bs[j.val]):=by rw[Rt,bit _ hj,show l.testBit j.val=true from b2,Re]
  rw[z,Nat.zero_testBit]at t1 t2;exact hp ⟨λw=>absurd w (of_decide_eq_false t1.symm),λw=>absurd w (of_decide_eq_false t2.symm)⟩
 .refine Nat.lt_of_le_of_ne Nat.and_le_left λz=>?_;have t1:(l &&& tf Bs p).testBit i.val=decide (p∈Bs[i.val]):=by rw[Rt,bit _ hi,show l.testBit i.val=true from b1,Re]
  have t2:(l &&& tf Bs p).testBit j.val=decide (p∈Bs[j.val]):=by rw[Rt,bit _ hj,show l.testBit j.val=true from b2,Re]
  rw[z,show l.testBit i.val=true from b1]at t1;rw[z,show l.testBit j.val=true from b2]at t2;exact hp ⟨λ_=>OD t2.symm,λ_=>OD t1.symm⟩
structure Dv(dv:List Int)(N j:Nat):Prop where
 len:dv.length=N
 nn:∀k,0<=dv.getD k 0
 lo:∀l,l<j->(dv.getD l 0=0↔l &&& (l-1)=0)
 hi:∀l,j<=l->dv.getD l 0=0
theorem yJ{dv:Sz}{N j:Nat}(h:Dv dv N j)(l s:Nat):0<=yj dv l s:=by
 unfold yj;have:=h.nn (l-(l &&& s));have:=h.nn (l &&& s)
 split<;>assumption
theorem Gx{f:Fe}{env:En}{l:Nat}(h:f env=some (.int (l:Nat))):LX (ai cS f (ai subI f SZ)) env=some (decide (l &&& (l-1)≠0)):=by
 have e:ai cS f (ai subI f SZ) env=some (.int ((l &&& (l-1):Nat):Int)):=by
  cases l with
  | zero=>exact(az h ((az h rfl).trans rfl)).trans rfl
  | succ l=>exact(az h ((az h rfl).trans (by show some (D.int _)=some (.int ((l:Nat):Int));congr 2;lia))).trans (jm (l+1) l)
 show(ai cS f (ai subI f SZ) env).bind Nn=_;rw[e];show some (((l &&& (l-1):Nat):Int) != 0)=_;congr 1;rw[OM,bne_iff_ne,w_]
 lia
theorem BG(ls:Sy)(vs:List Pt)(Hq:ls.length<=1000)(n N:Nat)(dv:Sz)(l:Nat)(hl:l<N)(sep:Sep ls N)(D0:Dv dv N l) :
  ∃MS,cZ [.F (bx ls vs),.F (.int (n:Nat)),.O (.L (dv.map .int)),.F (.int (l:Nat))]=some (.nx [.F (bx ls vs),.F (.int (n:Nat)),.O (.L (MS.map .int)),.F (.int (l:Nat))])/\Dv MS N (l+1):=by
 have ht:=Gx (f:=λenv=>bf env 3) (env:=[.F (bx ls vs),.F (.int (n:Nat)),.O (.L (dv.map .int)),.F (.int (l:Nat))]) (l:=l) rfl;have HL:l<dv.length:=by rw[D0.len];exact hl
 by_cases h2:l &&& (l-1)=0
 .rw[Ot (λz=>z h2)]at ht;refine⟨dv,(be ht).trans rfl,D0.len,D0.nn,λk hk=>?_,λk hk=>D0.hi k (RU hk)⟩;rcases Nat.lt_succ_iff_lt_or_eq.mp hk with z | rfl
  .exact D0.lo k z
  .exact⟨λ_=>h2,λ_=>D0.hi k (h_ _)⟩
 .rw[v_ h2]at ht;obtain⟨s,hs,hb⟩:=rE ls vs dv l HL Hq (sep l hl h2);have v1:Dj 2 (ai addI SZ (λenv=>((aa (λenv=>((aa au (aa aj (aa aw fNil))) env).bind m_best_shown) (aa au (aa aw fNil))) env).bind m_depth_behind)) [.F (bx ls vs),.F (.int (n:Nat)),.O (.L (dv.map .int)),.F (.int (l:Nat))]=some (.int (1+yj dv l s)):=by
   have e1:(λenv=>((aa (λenv=>((aa au (aa aj (aa aw fNil))) env).bind m_best_shown) (aa au (aa aw fNil))) env).bind m_depth_behind) [.F (bx ls vs),.F (.int (n:Nat)),.F (iD dv),.F (.int (l:Nat))]=some (.int (yj dv l s)):=(call_v (m:=m_depth_behind) (af ((call_v (m:=m_best_shown) (af (f:=λenv=>bf env 3) rfl (af (f:=λenv=>bf env 0) rfl (af (f:=λenv=>bf env 2) rfl aE)))).trans hb) (af (f:=λenv=>bf env 3) rfl (af (f:=λenv=>bf env 2) rfl aE)))).trans (ot dv l s HL);have e:=(az (b:=addI) (f:=fC (.int 1)) (g:=(λenv=>((aa (λenv=>((aa au (aa aj (aa aw fNil))) env).bind m_best_shown) (aa au (aa aw fNil))) env).bind m_depth_behind)) (env:=[.F (bx ls vs),.F (.int (n:Nat)),.F (iD dv),.F (.int (l:Nat))]) rfl e1).trans (eu 1 (yj dv l s));show(ai addI SZ _ [.F (bx ls vs),.F (.int (n:Nat)),.F (iD dv),.F (.int (l:Nat))]).bind _=_;rw[e];rfl
  refine⟨dv.set l (1+yj dv l s),(cf ht).trans ((BH v1 rfl (j:=(l:Nat)) rfl (F' (by lia) (by rw[c_];lia))).trans ?_),by rw[Sd];exact D0.len,λk=>?_,λk hk=>?_,λk hk=>?_⟩
  .rw[OC,List.map_set];rfl
  .have:=yJ D0 l s;rw[g_,List.getElem?_set]
   split
   .show(0:Int)<=1+_;lia
   .rw[<- g_];exact D0.nn k
  .have:=yJ D0 l s;rcases Nat.lt_succ_iff_lt_or_eq.mp hk with z | rfl
   .rw[g_,q_ (Rw z),<- g_];exact D0.lo k z
   .rw[g_,D_ HL];exact⟨λw=>by have:(1:Int)+yj dv k s=0:=w;lia,λw=>absurd w h2⟩
  .rw[g_,q_ (y_ hk),<- g_];exact D0.hi k (RU hk)
theorem Ej{g:Fe}{env:En}{n:Nat}(h:g env=some (.int (n:Nat)))(hn:n<=6):ai oZ SZ g env=some (.int ((2 ^ n:Nat):Int)):=by
 refine(az rfl h).trans ?_;show(if decide (0<=((n:Nat):Int)/\((n:Nat):Int)<=1000000/\(1:Int).natAbs<2 ^ 64)=true then some (D.int (1*2 ^ ((n:Nat):Int).toNat))else none)=_;rw[k_ (v_ ⟨by lia,by lia,by decide⟩),Int.one_mul,OC,Int.natCast_pow];rfl
theorem xJ(ls:Sy)(vs:List Pt)(Hq:ls.length<=1000)(n:Nat)(hn:n<=6)(sep:Sep ls (2 ^ n)):∃dv,m_least_depths [bx ls vs,.int (n:Nat)]=some (iD dv)/\Dv dv (2 ^ n) (2 ^ n):=by
 have Bu:2 ^ n<=64:=O1 (by decide:0<2) hn;have e0:ai F5 (bN (aa SY fNil)) (ai oZ SZ ah) (aT 4 [bx ls vs,.int (n:Nat)])=some (.lst ((List.replicate (2 ^ n) (0:Int)).map .int)):=by
  refine(az (oe (af rfl aE)) (Ej rfl hn)).trans ?_;show(if 0<=((2 ^ n:Nat):Int)/\[D.int 0].length*((2 ^ n:Nat):Int).toNat<=16000000/\((2 ^ n:Nat):Int)<1000000000 then some (D.lst (List.replicate ((2 ^ n:Nat):Int).toNat [D.int 0]).flatten)else none)=_;rw[k_ ⟨by lia,by rw[OC];show 1*_<=_;lia,by lia⟩,OC];congr 2
  induction 2 ^ n with
  | zero=>rfl
  | succ k ih=>rw[OW,Ph,ih,OW,G_];rfl
 obtain⟨e2,h1,dv,s3,rfl,h2⟩:=df (t:=bZ 3) (body:=cZ) (λj e=>∃dv s3,e=[.F (bx ls vs),.F (.int (n:Nat)),.O (.L (dv.map .int)),s3]/\Dv dv (2 ^ n) j) (aI 0 (2 ^ n)) 0 [.F (bx ls vs),.F (.int (n:Nat)),.O (.L ((List.replicate (2 ^ n) (0:Int)).map .int)),.un] ⟨_,.un,rfl,by simp,λk=>by simp[g_,OO];split<;>simp,λl hl=>absurd hl (QH _),λl _=>by simp[g_,OO];split<;>simp⟩ λi d e hd aG=>by
  obtain⟨dv,s3,he,h2⟩:=aG;subst he;obtain⟨rfl,hi⟩:=vL hd;rw[Oy]at h2 ⊢;obtain⟨MS,h3,h4⟩:=BG ls vs Hq n (2 ^ n) dv i hi sep h2;exact⟨_,fM (e0:=[.F (bx ls vs),.F (.int (n:Nat)),.O (.L (dv.map .int)),.F (.int (i:Nat))]) rfl h3,MS,_,rfl,h4⟩
 rw[show(aI 0 (2 ^ n)).length=2 ^ n by simp[aI],Oy]at h2;exact⟨dv,aV ((ak (gP e0)).trans ((ak ((cF (dB (Ej rfl hn) (by lia))).trans h1)).trans rfl)),h2⟩
theorem AR:∀(ls:Sy)(vs:List Pt)(s:Nat),vs.length=ls.length->s∈ls->∃p,lookI (ls.map λn=>(Sum.inl ((n:Nat):Int):L2.Key)) (vs.map cel) (.inl ((s:Nat):Int))=some (cel p)
 | [],_,s,_,h=>by cases h
 | l::ls,[],s,h,_=>by simp at h
 | l::ls,v::vs,s,h,hs=>by
  show ∃p,(if(Sum.inl ((l:Nat):Int):L2.Key)=.inl ((s:Nat):Int)then some (cel v)else lookI (ls.map λn=>(Sum.inl ((n:Nat):Int):L2.Key)) (vs.map cel) (.inl ((s:Nat):Int)))=_
  by_cases e:l=s
  .subst e;exact⟨v,k_ rfl⟩
  .rw[l_ (λz=>e (by have:=Sum.inl.inj z;lia))];rcases s_.mp hs with z | z
   .exact absurd z.symm e
   .exact AR ls vs s (by simpa using h) z
theorem Fc{f g:Fe}{env:En}{ls:Sy}{vs:List Pt}{s:Nat}(h1:f env=some (bx ls vs))(h2:g env=some (.int (s:Nat)))(hl:vs.length=ls.length)(hs:s∈ls):∃p,ai (ze Th.h) f g env=some (cel p):=by
 obtain⟨p,hp⟩:=AR ls vs s hl hs;refine⟨p,(az h1 h2).trans ?_⟩;unfold bx ze;rw[Ei];exact hp
theorem uF(ls:Sy)(vs:List Pt)(hv:vs.length=ls.length)(Hq:ls.length<=1000)(N:Nat)(sep:Sep ls N)(dv:Sz)(dd:Dv dv N N):∀(n l:Nat),0<l->l<N->l<n->∃P:Pn,bB n [.int (l:Nat),bx ls vs,iD dv]=some P.D/\P.dp<=l/\cnt P+1<=2*l:=by
 intro n
 induction n with
 | zero=>exact λl _ _ h=>absurd h (QH _)
 | succ n ih=>
  intro l h0 hN hn;have HL:l<dv.length:=by rw[dd.len];exact hN
  have ht:fB (ai cy (ai ay aw aj) SY) (aT 5 [.int (l:Nat),bx ls vs,iD dv])=some (dv.getD l 0==0):=dO ((az (zx rfl rfl HL) rfl).trans (ua _ _))
  by_cases h2:l &&& (l-1)=0
  .rw[(dd.lo l hN).mpr h2]at ht;have bl:ai subI (bc yB aj) SZ (aT 5 [.int (l:Nat),bx ls vs,iD dv])=some (.int (((Builtin.Int.intBits ((l:Nat):Int):Nat):Int)-1)):=(az (b:=subI) (x:=.int ((Builtin.Int.intBits ((l:Nat):Int):Nat):Int)) (y:=.int 1) rfl rfl).trans (vy _ _);refine⟨.kn (((Builtin.Int.intBits ((l:Nat):Int):Nat):Int)-1),aV (f:=fX (bB n)) (ec ((cf ht).trans (bu (cu (af (d:=.str FJ) rfl (af bl aE)))))),Py _,?_⟩;show 1+1<=_;lia
  .have hz:(dv.getD l 0==0)=false:=by
    rw[Q5];intro z;exact h2 ((dd.lo l hN).mp (by simpa using z))
   rw[hz]at ht;obtain⟨s,hs,hb⟩:=rE ls vs dv l HL Hq (sep l hN h2);obtain⟨m1,m2,m3⟩:=vF.mp hs;obtain⟨A,a1,a2,a3⟩:=ih (l-(l &&& s)) (by lia) (by lia) (by lia);obtain⟨B,b1,b2,b3⟩:=ih (l &&& s) m2 (by lia) (by lia);obtain⟨p,gp⟩:=Fc (f:=λenv=>bf env 1) (g:=λenv=>bf env 3) (env:=[.F (.int (l:Nat)),.F (bx ls vs),.F (iD dv),.F (.int (s:Nat)),.F A.D]) rfl rfl hv m1;have c1:∀x,ai cS aj au [.F (.int (l:Nat)),.F (bx ls vs),.F (iD dv),.F (.int (s:Nat)),x]=some (.int ((l &&& s:Nat):Int)):=λx=>(az rfl rfl).trans (jm l s);have c2:ai subI aj (ai cS aj au) [.F (.int (l:Nat)),.F (bx ls vs),.F (iD dv),.F (.int (s:Nat)),.un]=some (.int ((l-(l &&& s):Nat):Int)):=(az rfl (c1 .un)).trans (by show some (D.int _)=_;congr 2;lia);have w1:(λenv=>((aa (ai subI aj (ai cS aj au)) (aa ah (aa aw fNil))) env).bind (bB n)) [.F (.int (l:Nat)),.F (bx ls vs),.F (iD dv),.F (.int (s:Nat)),.un]=some A.D:=(call_v (af c2 (af (d:=bx ls vs) rfl (af (d:=iD dv) rfl aE)))).trans a1;have w2:(λenv=>((aa (ai cS aj au) (aa ah (aa aw fNil))) env).bind (bB n)) [.F (.int (l:Nat)),.F (bx ls vs),.F (iD dv),.F (.int (s:Nat)),.F A.D]=some B.D:=(call_v (af (c1 _) (af (d:=bx ls vs) rfl (af (d:=iD dv) rfl aE)))).trans b1;have w0:(λenv=>((aa aj (aa ah (aa aw fNil))) env).bind m_best_shown) (aT 5 [.int (l:Nat),bx ls vs,iD dv])=some (.int (s:Nat)):=(call_v (af (d:=.int (l:Nat)) rfl (af (d:=bx ls vs) rfl (af (d:=iD dv) rfl aE)))).trans hb;refine⟨.lk p A B,aV (f:=fX (bB n)) ((ak (e:=aT 5 [.int (l:Nat),bx ls vs,iD dv]) ((be ht).trans rfl)).trans ((ak (e:=[.F (.int (l:Nat)),.F (bx ls vs),.F (iD dv),.F (.int (s:Nat)),.un]) (aS w0)).trans ((ak (e:=[.F (.int (l:Nat)),.F (bx ls vs),.F (iD dv),.F (.int (s:Nat)),.F A.D]) (aS w1)).trans (bu (cu (af (d:=.str kS) rfl (af gp (af (d:=A.D) rfl (af w2 aE))))))))),?_,?_⟩
   .show 1+max A.dp B.dp<=l;lia
   .show 1+cnt A+cnt B+1<=2*l;lia
abbrev Ik:Str:="alike"
abbrev xH:Str:="plan"
theorem HC.up{h:List Sh}:∃x,fD h=nv x:=⟨_,rfl⟩
omit [Th] in
theorem my{α:Type}{xs:List α}(h:0<xs.length):∃x,L2.atI xs (-1)=some x:=by
 unfold L2.atI L2.vU;rw[l_ (by decide),k_ (by lia)];refine⟨xs[xs.length-1]'(by lia),?_⟩;show xs[(((xs.length:Nat):Int)+-1).toNat]?=_;rw[show(((xs.length:Nat):Int)+-1).toNat=xs.length-1 by lia];exact f_ (by lia)
theorem y8{R C:Nat}(hR:R<=4)(hC:C<=5)(hs:List (List Sh))(h0:0<hs.length)(h6:hs.length<=6)(H:∀h∈hs,HC R C h) :
  (∃x y,m_least_plan [.lst (hs.map aC)]=some (.tup [.str Ik,x,y]))\/∃d P,m_least_plan [.lst (hs.map aC)]=some (.tup [.str xH,d,Pn.D P])/\P.dp<=63/\cnt P<=130:=by
 have hBl:(hs.map fD).length=hs.length:=c_ ..;have t0:xr (fB (DM leI leI SZ (bc bY aj) (fC d6))) (aT 5 [.lst (hs.map aC)])=some false:=by
  refine(Iv (dO (IU (p:=true) (q:=true) rfl (gA rfl) rfl (El (by rw[c_];lia)) (El (by rw[c_];lia))))).trans rfl
 have g:=dg (t:=bZ 0) (k:=a5 (λenv=>((aa aj fNil) env).bind m_lying_cells)) (env:=[.un]) aC (λh=>bD (fD h)) hs λh hh=>⟨[.F (aC h)],rfl,i0 ((call_v (af (d:=aC h) rfl aE)).trans (sN hR hC (H h hh)))⟩;have eB:hs.map (λh=>bD (fD h))=(hs.map fD).map bD:=by rw[OA];rfl
 rw[eB]at g;have c1:=cg (fi:=ie aj) (env:=aT 5 [.lst (hs.map aC)]) (cm rfl) (n:=1) (caps:=[]) (is:=[0]) rfl g (by rw[c_,hBl];lia);obtain⟨es,a1,a2⟩:=yV (hs.map fD) (by lia);have w2:(λenv=>((aa ah fNil) env).bind m_alike_pairs) [.F (.lst (hs.map aC)),.F (.lst ((hs.map fD).map bD)),.un,.un,.un]=some (.lst (es.map cel)):=(call_v (af (d:=.lst ((hs.map fD).map bD)) rfl aE)).trans a1
 by_cases he:es=[]
 .right;subst he;have nd:=a2.mp rfl;have S:Ho R C (hs.map fD):=⟨hR,hC,by lia,λL hL p hp=>by
   obtain⟨h,hh,rfl⟩:=x_.mp hL;exact(H h hh).on p (((H h hh).mem hR hC).mp hp),λL hL=>by
   obtain⟨h,hh,rfl⟩:=x_.mp hL;have:=zq (H h hh).len λs hs=>((H h hh).sz s hs).2;have e:=(gX ((H h hh).okP hR hC) (lQ (H h hh).ap)).length_eq;show(nv (wI h)).length<=100;rw[<- e];lia⟩
  obtain⟨ls,vs,k1,k2,k3⟩:=xm S;have sep:=F8 S (λL hL=>by obtain⟨h,_,rfl⟩:=x_.mp hL;exact HC.up) nd k2;obtain⟨dv,d1,d2⟩:=xJ ls vs (by lia) (hs.map fD).length (by lia) sep;have hN:2 ^ (hs.map fD).length<=64:=O1 (by decide:0<2) (by lia:(hs.map fD).length<=6);have hN2:2<=2 ^ (hs.map fD).length:=by
   have:=O1 (by decide:0<2) (show 1<=(hs.map fD).length by lia);simpa using this
  obtain⟨P,p1,p2,p3⟩:=uF ls vs k2.len (by lia) _ sep dv d2 64 (2 ^ (hs.map fD).length-1) (by lia) (by lia) (by lia);obtain⟨x,hx⟩:=my (xs:=dv.map D.int) (by rw[c_,d2.len];lia);have MT:(λenv=>((aa ah fNil) env).bind m_alike_pairs) [.F (.lst (hs.map aC)),.F (.lst ((hs.map fD).map bD)),.un,.un,.un]=some (.lst []):=w2;have w3:(λenv=>((aa ah fNil) env).bind m_cells_by_lot) [.F (.lst (hs.map aC)),.F (.lst ((hs.map fD).map bD)),.F (.lst []),.un,.un]=some (bx ls vs):=(call_v (af (d:=.lst ((hs.map fD).map bD)) rfl aE)).trans k1;have w4:(λenv=>((aa au (aa (bc bY ah) fNil)) env).bind m_least_depths) [.F (.lst (hs.map aC)),.F (.lst ((hs.map fD).map bD)),.F (.lst []),.F (bx ls vs),.un]=some (iD dv):=(call_v (af (d:=bx ls vs) rfl (af (gA (ds:=(hs.map fD).map bD) rfl) aE))).trans (by rw[c_];exact d1);have eN:(((2 ^ (hs.map fD).length:Nat):Int)-1)=((2 ^ (hs.map fD).length-1:Nat):Int):=by
   generalize 2 ^ (hs.map fD).length=N at hN2 ⊢;omega
  have w5:ai subI (bc bY aQ) SZ [.F (.lst (hs.map aC)),.F (.lst ((hs.map fD).map bD)),.F (.lst []),.F (bx ls vs),.F (iD dv)]=some (.int ((2 ^ (hs.map fD).length-1:Nat):Int)):=(az (gA (ds:=dv.map D.int) rfl) rfl).trans (by rw[c_,d2.len];exact OZ (λz=>some (D.int z)) eN);have w6:(λenv=>((aa (ai subI (bc bY aQ) SZ) (aa au (aa aQ fNil))) env).bind iX) [.F (.lst (hs.map aC)),.F (.lst ((hs.map fD).map bD)),.F (.lst []),.F (bx ls vs),.F (iD dv)]=some P.D:=(call_v (af w5 (af (d:=bx ls vs) rfl (af (d:=iD dv) rfl aE)))).trans p1;have w7:ai ay aQ (bc gw SZ) [.F (.lst (hs.map aC)),.F (.lst ((hs.map fD).map bD)),.F (.lst []),.F (bx ls vs),.F (iD dv)]=some x:=ez (ds:=dv.map D.int) (i:=-1) rfl rfl hx;refine⟨x,P,aV (f:=fJ) ((ak (e:=aT 5 [.lst (hs.map aC)]) ((be t0).trans rfl)).trans ((ak (e:=[.F (.lst (hs.map aC)),.F (.lst ((hs.map fD).map bD)),.un,.un,.un]) (aS c1)).trans ((ak (e:=[.F (.lst (hs.map aC)),.F (.lst ((hs.map fD).map bD)),.F (.lst []),.un,.un]) (aS (i:=2) (f:=λenv=>((aa ah fNil) env).bind m_alike_pairs) (env:=[.F (.lst (hs.map aC)),.F (.lst ((hs.map fD).map bD)),.un,.un,.un]) MT)).trans ((ak (e:=[.F (.lst (hs.map aC)),.F (.lst ((hs.map fD).map bD)),.F (.lst []),.un,.un]) ((be rfl).trans rfl)).trans ((ak (e:=[.F (.lst (hs.map aC)),.F (.lst ((hs.map fD).map bD)),.F (.lst []),.F (bx ls vs),.un]) (aS w3)).trans ((ak (e:=[.F (.lst (hs.map aC)),.F (.lst ((hs.map fD).map bD)),.F (.lst []),.F (bx ls vs),.F (iD dv)]) (aS w4)).trans (bu (cu (af (d:=.str xH) rfl (af w7 (af w6 aE))))))))))),by lia,by lia⟩
 .left;cases es with
  | nil=>exact absurd rfl he
  | cons e es=>
   have MT:(λenv=>((aa ah fNil) env).bind m_alike_pairs) [.F (.lst (hs.map aC)),.F (.lst ((hs.map fD).map bD)),.un,.un,.un]=some (.lst (cel e::es.map cel)):=w2;refine⟨.int e.1,.int e.2,aV (f:=fJ) ((ak (e:=aT 5 [.lst (hs.map aC)]) ((be t0).trans rfl)).trans ((ak (e:=[.F (.lst (hs.map aC)),.F (.lst ((hs.map fD).map bD)),.un,.un,.un]) (aS c1)).trans ((ak (e:=[.F (.lst (hs.map aC)),.F (.lst ((hs.map fD).map bD)),.F (.lst (cel e::es.map cel)),.un,.un]) (aS (i:=2) (f:=λenv=>((aa ah fNil) env).bind m_alike_pairs) (env:=[.F (.lst (hs.map aC)),.F (.lst ((hs.map fD).map bD)),.un,.un,.un]) MT)).trans (ec ((cf rfl).trans (bu (qz (xs:=[.str Ik]) (ys:=[.int e.1,.int e.2]) (cu (af (d:=.str Ik) rfl aE)) (ez (ds:=cel e::es.map cel) (i:=((0:Nat):Int)) rfl rfl (dh rfl)) (by show 1+2<=16000000;decide))))))))⟩
theorem nZ{f g h:Fe}{env:En}{c k m:Int}(hf:f env=some (.int c))(hg:g env=some (.int k))(hh:h env=some (.int m))(h0:0<=k)(h1:k<=1000)(hm:0<m):∃z,ai modI (λenv=>((aa f (aa g fNil)) env).bind m__law_stir) h env=some (.int z)/\0<=z/\z<m:=by
 obtain⟨z,hz⟩:=qk c k h0 h1;exact⟨z%m,(az ((call_v (af hf (af hg aE))).trans hz) hh).trans (eJ hm),O8 _ (Int.ne_of_gt hm),OV _ hm⟩
theorem o8{f g:Fe}{env:En}{cs:List Pt}{z:Int}(hf:f env=some (.lst (cs.map cel)))(hg:g env=some (.int z))(h0:0<=z)(h1:z<(cs.length:Nat)):∃p,ai ay f g env=some (cel p):=by
 obtain⟨x,h2,h3⟩:=zL (xs:=cs.map cel) h0 (by rw[c_];exact h1);obtain⟨p,_,rfl⟩:=x_.mp h3;exact⟨p,ez hf hg h2⟩
def Bg(deep:Nat):Int:=10 ^ 41*4 ^ (4-deep)
theorem zD(cs:List Pt)(hc:cs≠[])(m:Int)(hm:0<=m):∀(n deep:Nat)(c:Int),deep<n->deep<=4->0<=c->c<Bg deep->∃P:Pn,aN n [.int c,.lst (cs.map cel),.int m,.int (deep:Nat)]=some P.D/\P.dp<=deep/\cnt P+1<=2 ^ (deep+1):=by
 intro n
 induction n with
 | zero=>exact λdeep _ h=>absurd h (QH _)
 | succ n ih=>
  intro deep c hn h4 c0 c1;have hlen:0<cs.length:=Qu.mpr hc;obtain⟨z1,e1,_⟩:=nZ (f:=λenv=>bf env 0) (g:=λenv=>bf env 3) (h:=fC (.int 5)) (env:=aT 6 [.int c,.lst (cs.map cel),.int m,.int (deep:Nat)]) (c:=c) (k:=(deep:Nat)) rfl rfl rfl (by lia) (by lia) (by decide);obtain⟨z2,e2,_⟩:=nZ (f:=λenv=>bf env 0) (g:=ai addI (fC (.int 90)) au) (h:=ai addI aw SZ) (env:=aT 6 [.int c,.lst (cs.map cel),.int m,.int (deep:Nat)]) (c:=c) (k:=90+(deep:Nat)) (m:=m+1) rfl rfl rfl (by lia) (by lia) (by lia);have t1:fB (ai cy au SY) (aT 6 [.int c,.lst (cs.map cel),.int m,.int (deep:Nat)])=some (((deep:Nat):Int)==0):=dO ((az rfl rfl).trans (ua _ _));have t2:fB (ai cy (ai modI (λenv=>((aa aj (aa au fNil)) env).bind m__law_stir) (fC (.int 5))) SY) (aT 6 [.int c,.lst (cs.map cel),.int m,.int (deep:Nat)])=some (z1==0):=dO ((az e1 rfl).trans (ua _ _));have tt:=zG t1 λ_=>t2
  by_cases hb:((((deep:Nat):Int)==0)||(z1==0))=true
  .rw[hb]at tt;refine⟨.kn z2,aV (f:=bW (aN n)) (ec ((cf tt).trans (bu (cu (af (d:=.str FJ) rfl (af e2 aE)))))),Py _,?_⟩;show 1+1<=_;have:=O1 (by decide:0<2) (show 1<=deep+1 by lia);simpa using this
  .rw[Q5.mpr hb]at tt;have hd:deep≠0:=λz=>hb (by rw[z];rfl);obtain⟨d,rfl⟩:=Rk hd;have c1:c<Bg (d+1):=c1;obtain⟨z3,e3,a3,b3⟩:=nZ (f:=λenv=>bf env 0) (g:=ai addI (fC (.int 91)) au) (h:=bc bY ah) (env:=aT 6 [.int c,.lst (cs.map cel),.int m,.int ((d+1:Nat):Int)]) (c:=c) (k:=91+((d+1:Nat):Int)) (m:=(cs.length:Nat)) rfl rfl ((gA rfl).trans (by rw[c_])) (by lia) (by lia) (by lia);obtain⟨p,hp⟩:=o8 (f:=λenv=>bf env 1) (cs:=cs) rfl e3 a3 b3;have bb:Bg d=4*Bg (d+1):=by
    unfold Bg;have:∀k:Fin 4,(10:Int) ^ 41*4 ^ (4-k.val)=4*(10 ^ 41*4 ^ (4-(k.val+1))):=by decide +kernel
    exact this ⟨d,by lia⟩
   have b10:Bg (d+1)<=10 ^ 41*256:=by
    unfold Bg;have:∀k:Fin 5,(10:Int) ^ 41*4 ^ (4-k.val)<=10 ^ 41*256:=by decide +kernel
    exact this ⟨d+1,by lia⟩
   have b2:2<=Bg (d+1):=by
    unfold Bg;have:∀k:Fin 5,(2:Int)<=10 ^ 41*4 ^ (4-k.val):=by decide +kernel
    exact this ⟨d+1,by lia⟩
   have bg:big c=true:=jN (10 ^ 41*256) (by
    have e:((10 ^ 41*256:Nat):Int)=10 ^ 41*256:=by decide +kernel
    generalize (10 ^ 41*256:Nat)=K at e ⊢;rw[<- e]at b10;omega)
   have m3:∀e:En,bf e 0=some (.int c)->ai mulI S1 aj e=some (.int (3*c)):=λe he=>(az rfl he).trans (by
    show(if(big 3&&big c)=true then some (D.int (3*c))else none)=_;rw[bg,show big 3=true from gG (by decide) (by decide)];rfl)
   obtain⟨A,a1,a2,a3'⟩:=ih d (3*c+1) (by lia) (by lia) (by lia) (by lia);obtain⟨B,b1,b2',b3'⟩:=ih d (3*c+2) (by lia) (by lia) (by lia) (by lia);have sb:((d+1:Nat):Int)-1=((d:Nat):Int):=by lia
   have w1:(λenv=>((aa (ai addI (ai mulI S1 aj) SZ) (aa ah (aa aw (aa (ai subI au SZ) fNil)))) env).bind (aN n)) [.F (.int c),.F (.lst (cs.map cel)),.F (.int m),.F (.int ((d+1:Nat):Int)),.F (cel p),.un]=some A.D:=by
    refine(call_v (af ((az (m3 _ rfl) rfl).trans (eu _ _)) (af (d:=.lst (cs.map cel)) rfl (af (d:=.int m) rfl (af ((az rfl rfl).trans (vy _ _)) aE))))).trans ?_;rw[sb];exact a1
   have w2:(λenv=>((aa (ai addI (ai mulI S1 aj) S0) (aa ah (aa aw (aa (ai subI au SZ) fNil)))) env).bind (aN n)) [.F (.int c),.F (.lst (cs.map cel)),.F (.int m),.F (.int ((d+1:Nat):Int)),.F (cel p),.F A.D]=some B.D:=by
    refine(call_v (af ((az (m3 _ rfl) rfl).trans (eu _ _)) (af (d:=.lst (cs.map cel)) rfl (af (d:=.int m) rfl (af ((az rfl rfl).trans (vy _ _)) aE))))).trans ?_;rw[sb];exact b1
   refine⟨.lk p A B,aV (f:=bW (aN n)) ((ak (e:=aT 6 [.int c,.lst (cs.map cel),.int m,.int ((d+1:Nat):Int)]) ((be tt).trans rfl)).trans ((ak (e:=[.F (.int c),.F (.lst (cs.map cel)),.F (.int m),.F (.int ((d+1:Nat):Int)),.F (cel p),.un]) (aS hp)).trans ((ak (e:=[.F (.int c),.F (.lst (cs.map cel)),.F (.int m),.F (.int ((d+1:Nat):Int)),.F (cel p),.F A.D]) (aS w1)).trans (bu (cu (af (d:=.str kS) rfl (af (d:=cel p) rfl (af (d:=A.D) rfl (af w2 aE))))))))),?_,?_⟩
   .show 1+max A.dp B.dp<=d+1;lia
   .show 1+cnt A+cnt B+1<=2 ^ (d+1+1);rw[P6];lia
theorem four{r:Sz}(h:r.length=4):∃a b c d,r=[a,b,c,d]:=by
 match r,h with
 | [a,b,c,d],_=>exact⟨a,b,c,d,rfl⟩
theorem Cc(cs:List Pt)(hc:cs≠[]):∀(n:Nat)(P:Pn)(c:Int),P.dp<n->∃P':Pn,aO n [.int c,P.D,.lst (cs.map cel)]=some P'.D/\P'.dp<=P.dp+1/\cnt P'<=2*cnt P+1:=by
 intro n
 induction n with
 | zero=>exact λP c h=>absurd h (QH _)
 | succ n ih=>
  intro P c hn;have hlen:0<cs.length:=Qu.mpr hc;obtain⟨r,r1,r2,r3⟩:=sP c [7,64,3,12] (by decide) (by decide);obtain⟨w,sp,sd,nm,rfl⟩:=four r2;have q0:=r3 0 w 7 rfl rfl;have q1:=r3 1 sp 64 rfl rfl;have q2:=r3 2 sd 3 rfl rfl;have q3:=r3 3 nm 12 rfl rfl
  let E:En:=[.F (.int c),.F P.D,.F (.lst (cs.map cel)),.F (.int w),.F (.int sp),.F (.int sd),.F (.int nm)]
  have s0:GQ [3,4,5,6] (λenv=>((aa aj (aa (bN (aa (fC (.int 7)) (aa (fC (.int 64)) (aa S1 (aa (fC (.int 12)) fNil))))) fNil)) env).bind m__law_drawn) (aT 7 [.int c,P.D,.lst (cs.map cel)])=some (.nx E):=
   D9 (ds:=[.int w,.int sp,.int sd,.int nm]) ((call_v (af (d:=.int c) rfl (af (d:=.lst [.int 7,.int 64,.int 3,.int 12]) rfl aE))).trans r1) rfl
  have tw:∀k:Int,fB (ai cy au (fC (.int k))) E=some (w==k):=λk=>dO ((az rfl rfl).trans (ua _ _));have uP:ai modI aQ (bc bY aw) E=some (.int (sp%(cs.length:Nat))):=(az rfl (gA rfl)).trans (by rw[c_];exact eJ (by lia));obtain⟨p,hp⟩:=o8 (f:=λenv=>bf env 2) (cs:=cs) (env:=E) rfl uP (O8 _ (by lia)) (OV _ (by lia))
  by_cases w0:w=0
  .refine⟨.lk p P P,aV (f:=cJ (aO n)) ((ak s0).trans (ec ((cf ((tw 0).trans (by rw[w0];rfl))).trans (bu (cu (af (d:=.str kS) rfl (af hp (af (d:=P.D) rfl (af (d:=P.D) rfl aE))))))))),?_,?_⟩
   .show 1+max P.dp P.dp<=_;lia
   .show 1+cnt P+cnt P<=_;lia
  have f0:∀{k:Int},w≠k->(w==k)=false:=λ{k} h=>by simpa using h
  have k1:=qw (f:=λenv=>bf env 1) (env:=E) P rfl;cases P with
  | kn m=>
   have p30:ai powI (fC (.int 10)) (fC (.int 30)) E=some (.int (10 ^ 30)):=(az rfl rfl).trans (iY (gG (by decide) (by decide)) (by decide) (by decide));have pm:ai ay ah SZ E=some (.int m):=bO (i:=1) rfl rfl rfl;have l6:bN (aa (ai addI (ai ay ah SZ) SZ) (aa (ai subI (ai ay ah SZ) SZ) (aa SY (aa (ai powI (fC (.int 10)) (fC (.int 30))) (aa (ai ay ah SZ) (aa (bc gw SZ) fNil)))))) E=some (.lst ([m+1,m-1,0,10 ^ 30,m,-1].map D.int)):=oe (af ((az pm rfl).trans (eu _ _)) (af ((az pm rfl).trans (vy _ _)) (af (d:=.int 0) rfl (af p30 (af pm (af (d:=.int (-1)) rfl aE))))));have n6:ai modI bw (fC (.int 6)) E=some (.int (nm%6)):=(az rfl rfl).trans (eJ (by decide));obtain⟨x,x1,x2⟩:=zL (xs:=([m+1,m-1,0,10 ^ 30,m,-1]:Sz).map D.int) (i:=nm%6) (O8 _ (by decide)) (OV _ (by decide));obtain⟨k,_,rfl⟩:=x_.mp x2;refine⟨.kn k,aV (f:=cJ (aO n)) ((ak s0).trans ((ak (e:=E) ((be ((tw 0).trans (OZ some (f0 w0)))).trans rfl)).trans (ec ((cf k1).trans (bu (cu (af (d:=.str FJ) rfl (af (ez l6 n6 x1) aE)))))))),Py _,by show 1<=_;lia⟩
  | lk q a b=>
   have g1:ai ay ah SZ E=some (cel q):=bO (i:=1) rfl rfl rfl;have g2:ai ay ah S0 E=some a.D:=bO (i:=2) rfl rfl rfl;have g3:ai ay ah S1 E=some b.D:=bO (i:=3) rfl rfl rfl;have e1:(Pn.lk q a b).dp=1+max a.dp b.dp:=rfl;have e2:cnt (Pn.lk q a b)=1+cnt a+cnt b:=rfl;have run:∀{o:Out},(aD (gu (fB (ai cy au SZ)) (bt (aP (aa (fC (.str kS)) (aa (ai ay aw (ai modI aQ (bc bY aw))) (aa (ai ay ah S0) (aa (ai ay ah S1) fNil)))))) nxF) (aD (gu (fB (ai cy au S0)) (bt (aP (aa (fC (.str "look")) (aa (ai ay ah SZ) (aa (ai ay ah S1) (aa (ai ay ah S0) fNil)))))) nxF) (aD (gu (fB (ai cy au S1)) (bt (aP (aa (fC (.str "look")) (aa (ai ay (bN (aa (aP (aa (bc gw SZ) (aa SY fNil))) (aa (aP (aa (fC (.int 64)) (aa (fC (.int 64)) fNil))) (aa (aP (aa SY (aa (ai powI (fC (.int 10)) (fC (.int 20))) fNil))) fNil)))) cX) (aa (ai ay ah S0) (aa (ai ay ah S1) fNil)))))) nxF) (aD (gu (fB (ai cy cX SY)) (bt (ai l5 (tG gH ah oNone (cD S0)) (aP (aa (λenv=>((aa (ai addI (ai fdivI aj (fC (.int 7))) SZ) (aa (ai ay ah S0) (aa aw fNil))) env).bind (aO n)) (aa (ai ay ah S1) fNil))))) nxF) (bt (ai l5 (tG gH ah oNone (cD S1)) (aP (aa (λenv=>((aa (ai addI (ai fdivI aj (fC (.int 7))) SZ) (aa (ai ay ah S1) (aa aw fNil))) env).bind (aO n)) fNil)))))))) E=some o->cJ (aO n) (aT 7 [.int c,(Pn.lk q a b).D,.lst (cs.map cel)])=some o:=λ{o} h=>(ak s0).trans ((ak (e:=E) ((be ((tw 0).trans (OZ some (f0 w0)))).trans rfl)).trans ((ak (e:=E) ((be k1).trans rfl)).trans h))
   by_cases w1:w=1
   .refine⟨.lk p a b,aV (run (ec ((cf ((tw 1).trans (by rw[w1];rfl))).trans (bu (cu (af (d:=.str kS) rfl (af hp (af g2 (af g3 aE))))))))),?_,?_⟩
    .show 1+max a.dp b.dp<=_;lia
    .show 1+cnt a+cnt b<=_;lia
   by_cases w2:w=2
   .refine⟨.lk q b a,aV (run ((ak (e:=E) ((be ((tw 1).trans (OZ some (f0 w1)))).trans rfl)).trans (ec ((cf ((tw 2).trans (by rw[w2];rfl))).trans (bu (cu (af (d:=.str kS) rfl (af g1 (af g3 (af g2 aE)))))))))),?_,?_⟩
    .show 1+max b.dp a.dp<=_;lia
    .show 1+cnt b+cnt a<=_;lia
   by_cases w3:w=3
   .have p20:ai powI (fC (.int 10)) (fC (.int 20)) E=some (.int (10 ^ 20)):=(az rfl rfl).trans (iY (gG (by decide) (by decide)) (by decide) (by decide));have l3:bN (aa (aP (aa (bc gw SZ) (aa SY fNil))) (aa (aP (aa (fC (.int 64)) (aa (fC (.int 64)) fNil))) (aa (aP (aa SY (aa (ai powI (fC (.int 10)) (fC (.int 20))) fNil))) fNil))) E=some (.lst (([(-1,0),(64,64),(0,10 ^ 20)]:List Pt).map cel)):=oe (af (cu (af (d:=.int (-1)) rfl (af (d:=.int 0) rfl aE))) (af (cu (af (d:=.int 64) rfl (af (d:=.int 64) rfl aE))) (af (cu (af (d:=.int 0) rfl (af p20 aE))) aE)));obtain⟨t,ht⟩:=o8 (f:=bN (aa (aP (aa (bc gw SZ) (aa SY fNil))) (aa (aP (aa (fC (.int 64)) (aa (fC (.int 64)) fNil))) (aa (aP (aa SY (aa (ai powI (fC (.int 10)) (fC (.int 20))) fNil))) fNil)))) (g:=λenv=>bf env 5) (env:=E) l3 rfl q2.1 q2.2;refine⟨.lk t a b,aV (run ((ak (e:=E) ((be ((tw 1).trans (OZ some (f0 w1)))).trans rfl)).trans ((ak (e:=E) ((be ((tw 2).trans (OZ some (f0 w2)))).trans rfl)).trans (ec ((cf ((tw 3).trans (by rw[w3];rfl))).trans (bu (cu (af (d:=.str kS) rfl (af ht (af g2 (af g3 aE))))))))))),?_,?_⟩
    .show 1+max a.dp b.dp<=_;lia
    .show 1+cnt a+cnt b<=_;lia
   obtain⟨d1,d2⟩:=vq hn;have dv:ai addI (ai fdivI aj (fC (.int 7))) SZ E=some (.int (c/7+1)):=(az ((az rfl rfl).trans (jc (by decide) (by decide))) rfl).trans (eu _ _);obtain⟨A,a1,a2,a3⟩:=ih a (c/7+1) d1;obtain⟨B,b1,b2,b3⟩:=ih b (c/7+1) d2;have ts:fB (ai cy cX SY) E=some (sd==0):=dO ((az rfl rfl).trans (ua _ _));have cA:(λenv=>((aa (ai addI (ai fdivI aj (fC (.int 7))) SZ) (aa (ai ay ah S0) (aa aw fNil))) env).bind (aO n)) E=some A.D:=(call_v (af dv (af g2 (af (d:=.lst (cs.map cel)) rfl aE)))).trans a1;have cB:(λenv=>((aa (ai addI (ai fdivI aj (fC (.int 7))) SZ) (aa (ai ay ah S1) (aa aw fNil))) env).bind (aO n)) E=some B.D:=(call_v (af dv (af g3 (af (d:=.lst (cs.map cel)) rfl aE)))).trans b1;have N1:∀{o:Out},(aD (gu (fB (ai cy cX SY)) (bt (ai l5 (tG gH ah oNone (cD S0)) (aP (aa (λenv=>((aa (ai addI (ai fdivI aj (fC (.int 7))) SZ) (aa (ai ay ah S0) (aa aw fNil))) env).bind (aO n)) (aa (ai ay ah S1) fNil))))) nxF) (bt (ai l5 (tG gH ah oNone (cD S1)) (aP (aa (λenv=>((aa (ai addI (ai fdivI aj (fC (.int 7))) SZ) (aa (ai ay ah S1) (aa aw fNil))) env).bind (aO n)) fNil))))) E=some o->cJ (aO n) (aT 7 [.int c,(Pn.lk q a b).D,.lst (cs.map cel)])=some o:=λ{o} h=>run ((ak (e:=E) ((be ((tw 1).trans (OZ some (f0 w1)))).trans rfl)).trans ((ak (e:=E) ((be ((tw 2).trans (OZ some (f0 w2)))).trans rfl)).trans ((ak (e:=E) ((be ((tw 3).trans (OZ some (f0 w3)))).trans rfl)).trans h)))
   by_cases s1:sd=0
   .refine⟨.lk q A b,aV (N1 (ec ((cf (ts.trans (by rw[s1];rfl))).trans (bu (qz (xs:=[.str kS,cel q]) (ys:=[A.D,b.D]) (zC 2 (ds:=[.str kS,cel q,a.D,b.D]) rfl (by show 2<4;decide)) (cu (af cA (af g3 aE))) (by show 2+2<=16000000;decide)))))),?_,?_⟩
    .show 1+max A.dp b.dp<=_;lia
    .show 1+cnt A+cnt b<=_;lia
   .refine⟨.lk q a B,aV (N1 ((ak (e:=E) ((be (ts.trans (by rw[show(sd==0)=false by simpa using s1]))).trans rfl)).trans (bu (qz (xs:=[.str kS,cel q,a.D]) (ys:=[B.D]) (zC 3 (ds:=[.str kS,cel q,a.D,b.D]) rfl (by show 3<4;decide)) (cu (af cB aE)) (by show 3+1<=16000000;decide))))),?_,?_⟩
    .show 1+max a.dp B.dp<=_;lia
    .show 1+cnt a+cnt B<=_;lia
omit [Th] in
theorem Ay(a s:Int)(n:Nat)(h0:0<=a)(h1:a<n)(hs:1<=s):sliceBounds (some a) none (some s) n=(a,(n:Int),s):=by
 show((if s>0 then max 0 (min (if a<0 then a+n else a) (n:Int))else max (-1) (min (if a<0 then a+n else a) ((n:Int)-1))),(if s>0 then(n:Int)else -1),s)=_;rw[k_ (show s>0 by lia),k_ (show s>0 by lia),l_ (show ¬a<0 by lia)];congr 1
 lia
omit [Th] in
theorem Bw(a s:Int)(n:Nat)(h0:0<=a)(h1:a<n)(hs:1<=s):∃c:Nat,0<c/\c<=n/\gx n (some a) none (some s)=(List.range c).map λ(k:Nat)=>(a+s*(k:Int)).toNat:=by
 have e1:1<=((n:Int)-a+s-1)/s:=Int.le_ediv_of_mul_le (by lia) (by lia);have e2:((n:Int)-a+s-1)/s<=(n:Int)-a:=by
  refine Int.ediv_le_of_le_mul (by lia) ?_;have:=Int.mul_nonneg (show 0<=(n:Int)-a-1 by lia) (show 0<=s-1 by lia);rw[Int.sub_mul,Int.mul_sub,Int.mul_one,Int.one_mul]at this
  lia
 refine⟨(((n:Int)-a+s-1)/s).toNat,by lia,by lia,?_⟩;unfold gx;rw[Ay a s n h0 h1 hs];unfold sliceRange;dsimp only;rw[k_ (show s>0 by lia),k_ h1]
omit [Th] in
theorem yZ{α β:Type}(f:α->β)(xs:List α)(is:Sy):bL (xs.map f) is=(bL xs is).map f:=by
 unfold bL;rw[List.map_filterMap];congr 1;funext i;rw[m_]
omit [Th] in
theorem xV{α:Type}(xs:List α)(a s:Int)(h0:0<=a)(h1:a<(xs.length:Nat))(hs:1<=s):bL xs (gx xs.length (some a) none (some s))≠[]/\(bL xs (gx xs.length (some a) none (some s))).length<=xs.length/\∀x∈bL xs (gx xs.length (some a) none (some s)),x∈xs:=by
 obtain⟨c,c0,c1,e⟩:=Bw a s xs.length h0 h1 hs;refine⟨?_,?_,λx hx=>?_⟩
 .rw[e];obtain⟨c,rfl⟩:=Rk (Rw c0);unfold bL;intro z;rw[List.filterMap_eq_nil_iff]at z;have:=z a.toNat (x_.mpr ⟨0,Ov.mpr (by lia),by simp⟩);rw[f_ (by lia)]at this;cases this
 .refine C_ (List.length_filterMap_le _ _) ?_;rw[e,c_,Pi];exact c1
 .unfold bL at hx;obtain⟨i,_,hi⟩:=QI.mp hx;exact Ox hi
theorem F4(c:Int)(ps:List (List Sh))(hps:ps.length<=300):∃qs:List (List Sh),m__law_order [.int c,.lst (ps.map aC)]=some (.lst (qs.map aC))/\qs.Perm ps:=by
 obtain⟨e2,h1,qs,s3,s4,rfl,h3⟩:=df (t:=md [3,4]) (body:=gB) (λj e=>∃(qs:List (List Sh))(s3 s4:Slot),e=[.F (.int c),.F (.lst (ps.map aC)),.O (.L (qs.map aC)),s3,s4]/\qs.Perm (ps.take j)) (iq 0 (ps.map aC)) 0 _ ⟨[],.un,.un,rfl,.nil⟩ λi d e hd aG=>by
  obtain⟨qs,s3,s4,he,h3⟩:=aG;subst he;have hi:=(o_.mp hd).1;rw[fE,c_]at hi;have hx:(ps.map aC)[i]?=some (aC ps[i]):=by rw[m_,f_ hi];rfl
  rw[jw hx]at hd;cases hd;simp only[Oy]at h3 ⊢;have hql:qs.length=i:=by rw[h3.length_eq,Pk];lia
  obtain⟨z,hz⟩:=qk c (3*(i:Int)+1) (by lia) (by lia);have m3:ai addI (ai mulI S1 au) SZ [.F (.int c),.F (.lst (ps.map aC)),.O (.L (qs.map aC)),.F (.int i),.F (aC ps[i])]=some (.int (3*(i:Int)+1)):=(az ((az rfl rfl).trans (mT (by decide) (by decide) (by lia) (by lia))) rfl).trans (eu _ _);have hp:(0:Int)<(i:Int)+1:=by lia
  have hk:ai modI (λenv=>((aa aj (aa (ai addI (ai mulI S1 au) SZ) fNil)) env).bind m__law_stir) (ai addI au SZ) [.F (.int c),.F (.lst (ps.map aC)),.O (.L (qs.map aC)),.F (.int i),.F (aC ps[i])]=some (.int (z%((i:Int)+1))):=(az ((call_v (af rfl (af m3 aE))).trans hz) rfl).trans (eJ hp);have b1:=O8 z (Int.ne_of_gt hp);have b2:=OV z hp;refine⟨_,fM (e0:=[.F (.int c),.F (.lst (ps.map aC)),.O (.L (qs.map aC)),.F (.int i),.F (aC ps[i])]) rfl (HV rfl hk rfl b1 (by rw[c_];lia) (by rw[c_];lia)),insAt qs (z%((i:Int)+1)).toNat ps[i],.F (.int i),.F (aC ps[i]),?_,?_⟩
  .unfold insAt;simp[RV,List.map_drop]
  .refine(tE _ _ _).trans ((h3.cons _).trans ?_);rw[List.take_succ,f_ hi];exact(List.perm_append_comm (l₁:=[ps[i]]) (l₂:=ps.take i))
 rw[Oy,fE,c_,O3]at h3;exact⟨qs,aV ((ak (gP rfl)).trans ((ak ((cF (pN rfl)).trans h1)).trans rfl)),h3⟩
theorem D8{f g:Fe}{env:En}{ds:SV}{m:Nat}(h:g env=some (.lst ds))(hf:f env=some (.int (m:Int))):tG mH g oNone (cD f) env=some (.lst (ds.take m)):=by
 unfold tG cD;rw[h,M_];show((f env).bind _).bind _=_;rw[hf];show some (D.lst (cutD ds none (some (m:Int))))=_;rw[oD]
theorem BZ(c:Int)(X:List (List Sh))(hX:X≠[])(hl:X.length<=64000):∃Y:List (List Sh),m__law_some_hidings [.int c,.lst (X.map aC),.int 6]=some (.lst (Y.map aC))/\0<Y.length/\Y.length<=6/\∀h∈Y,h∈X:=by
 have hx0:0<X.length:=Qu.mpr hX;have hlen:∀e:En,bf e 1=some (.lst (X.map aC))->bc bY ah e=some (.int (X.length:Nat)):=λe he=>(gA he).trans (by rw[c_]);obtain⟨z0,a0,b0,d0⟩:=nZ (f:=λenv=>bf env 0) (g:=fC (.int 60)) (h:=λenv=>bf env 2) (env:=aT 5 [.int c,.lst (X.map aC),.int 6]) (c:=c) (k:=60) (m:=6) rfl rfl rfl (by decide) (by decide) (by decide);obtain⟨m,hm⟩:=Pq (show 0<=1+z0 by lia);have v3:ai addI SZ (ai modI (λenv=>((aa aj (aa (fC (.int 60)) fNil)) env).bind m__law_stir) aw) (aT 5 [.int c,.lst (X.map aC),.int 6])=some (.int (m:Nat)):=(az rfl a0).trans (by rw[eu,hm])
 let E3:En:=[.F (.int c),.F (.lst (X.map aC)),.F (.int 6),.F (.int (m:Nat)),.un]
 have q3:ai maxI SZ (ai fdivI (bc bY ah) au) E3=some (.int (if((X.length:Nat):Int)/(m:Nat)>1 then((X.length:Nat):Int)/(m:Nat)else 1)):=(az rfl ((az (hlen E3 rfl) rfl).trans (jc (by lia) (by lia)))).trans rfl;obtain⟨z1,a1,b1,d1⟩:=nZ (f:=λenv=>bf env 0) (g:=fC (.int 61)) (env:=E3) (c:=c) (k:=61) rfl rfl q3 (by decide) (by decide) (by split<;>lia);have v4:ai addI SZ (ai modI (λenv=>((aa aj (aa (fC (.int 61)) fNil)) env).bind m__law_stir) (ai maxI SZ (ai fdivI (bc bY ah) au))) E3=some (.int (1+z1)):=(az rfl a1).trans (eu _ _)
 let E4:En:=[.F (.int c),.F (.lst (X.map aC)),.F (.int 6),.F (.int (m:Nat)),.F (.int (1+z1))]
 have q4:ai maxI SZ (ai fdivI (bc bY ah) S0) E4=some (.int (if((X.length:Nat):Int)/2>1 then((X.length:Nat):Int)/2 else 1)):=(az rfl ((az (hlen E4 rfl) rfl).trans (jc (by decide) (by decide)))).trans rfl;obtain⟨z2,a2,b2,d2⟩:=nZ (f:=λenv=>bf env 0) (g:=fC (.int 62)) (env:=E4) (c:=c) (k:=62) rfl rfl q4 (by decide) (by decide) (by split<;>lia);have MJ:z2<(X.length:Nat):=by
  have:=d2
  split at this<;>lia
 obtain⟨p1,p2,p3⟩:=xV X z2 (1+z1) b2 MJ (by lia);have v5:KG ah (cD (ai modI (λenv=>((aa aj (aa (fC (.int 62)) fNil)) env).bind m__law_stir) (ai maxI SZ (ai fdivI (bc bY ah) S0)))) oNone (cD aQ) E4=some (.lst ((bL X (gx X.length (some z2) none (some (1+z1)))).map aC)):=by
  show(some (D.lst (X.map aC))).bind _=_;rw[M_];show(cD _ E4).bind _=_;unfold cD;rw[a2];show(if some (1+z1)≠some 0/\(bL (X.map aC) (gx (X.map aC).length (some z2) none (some (1+z1)))).length<=(X.map aC).length then some (D.lst (bL (X.map aC) (gx (X.map aC).length (some z2) none (some (1+z1)))))else none)=_;rw[c_,yZ,k_ ⟨λz=>by have:=Option.some.inj z;lia,by rw[c_];exact p2⟩]
 have hY:((bL X (gx X.length (some z2) none (some (1+z1)))).take m).length<=6:=by rw[Pk];lia
 obtain⟨Y,y1,y2⟩:=F4 c ((bL X (gx X.length (some z2) none (some (1+z1)))).take m) (by lia);have v6:(λenv=>((aa aj (aa (tG mH (KG ah (cD (ai modI (λenv=>((aa aj (aa (fC (.int 62)) fNil)) env).bind m__law_stir) (ai maxI SZ (ai fdivI (bc bY ah) S0)))) oNone (cD aQ)) oNone (cD au)) fNil)) env).bind m__law_order) E4=some (.lst (Y.map aC)):=(call_v (af (d:=.int c) rfl (af (D8 (m:=m) v5 rfl) aE))).trans (by rw[<- RV];exact y1);refine⟨Y,aV (f:=dF) ((ak (e:=E3) (aS v3)).trans ((ak (e:=E4) (aS v4)).trans (bu v6))),?_,by rw[y2.length_eq];exact hY,λh hh=>p3 h (List.mem_of_mem_take (y2.mem_iff.mp hh))⟩;rw[y2.length_eq,Pk];have:=Qu.mpr p1
 lia
theorem q8{f g:Fe}{env:En}{d:D}(h1:f env=some d)(h2:g env=some d)(hd:fw d<=60)(hp:pl d=true):ai vg f g env=some (.bl false):=Lw h1 h2 (Fq hd (by rw[hp];rfl)) (qX d hp)
theorem Af(h1:1<=s.n)(h:s∈ei R C s.n):∀q∈s.cs,q∈qG R C:=λq hq=>by
 obtain⟨⟨a,b,ea,eb,ha,hb⟩,_,h3,h4⟩:=jR.mp h;obtain⟨c1,c2,c3,c4⟩:=(mx h1 q).mp hq;rw[pK];unfold Sh.rz at c2;unfold Sh.cz at c4;cases hd:s.dn with
 | true=>
  have:=(h4 hd).1;rw[k_ hd]at c2 c4
  lia
 | false=>
  have:=h3 hd;rw[l_ (by rw[hd];simp)]at c2 c4
  lia
theorem PL.hc{R C:Nat}{fl:Sy}{ru:Str}(p:PL R C fl ru){h:List Sh}(hh:h∈eR R C ru fl fl.length):HC R C h:=by
 have H:=p.hid hh;refine⟨H.ap,H.len,H.sz,λq hq=>?_⟩;unfold m7 at hq;obtain⟨s,hs,hq⟩:=R0.mp hq;exact Af (H.sz s hs).1 (H.on s hs) q (OD hq)
def gQ:Nat->List (List Sh)->List (Nat×List Sh)
 | _,[]=>[]
 | k,h::r=>(k,h)::gQ (k+1) r
def hD(x:Nat×List Sh):D:=.tup [.int (x.1:Nat),aC x.2]
omit [Th] in
theorem yW:∀(k:Nat)(hs:List (List Sh)),iq k (hs.map aC)=(gQ k hs).map hD
 | _,[]=>rfl
 | k,h::r=>by
  show D.tup [.int (k:Int),aC h]::iq (k+1) (r.map aC)=hD (k,h)::(gQ (k+1) r).map hD;rw[yW (k+1) r];rfl
omit [Th] in
theorem oj:∀{k:Nat}{hs:List (List Sh)}{x:Nat×List Sh},x∈gQ k hs->x.2∈hs
 | _,[],_,h=>by cases h
 | k,g::r,x,h=>by
  rcases s_.mp h with rfl | h
  .exact j_ ..
  .exact i_ _ (oj h)
omit [Th] in
theorem n4:∀(k:Nat)(hs:List (List Sh)),(gQ k hs).length=hs.length
 | _,[]=>rfl
 | k,h::r=>by show(gQ (k+1) r).length+1=_;rw[n4];rfl
omit [Th] in
theorem all_range(e:List Sh->Int):∀(k:Nat)(hs:List (List Sh)),((gQ k hs).map λx=>(e x.2==((x.1:Nat):Int))).all id=decide (hs.map e=(List.range hs.length).map λ(i:Nat)=>((k+i:Nat):Int))
 | k,[]=>rfl
 | k,h::r=>by
  have ih:=all_range e (k+1) r;show((e h==((k:Nat):Int))&&((gQ (k+1) r).map λx=>(e x.2==((x.1:Nat):Int))).all id)=_;rw[ih,OM,A_,w_,w_,R9,H_,List.range_succ_eq_map,G_,G_,List.cons.injEq,OA];have e1:((List.range r.length).map λ(i:Nat)=>((k+1+i:Nat):Int))=(List.range r.length).map ((λ(i:Nat)=>((k+i:Nat):Int)) ∘ Nat.succ):=P3 λi _=>by show _=((k+(i+1):Nat):Int);congr 1;lia
  rw[e1];exact and_congr (by rw[Nat.add_zero]) Iff.rfl
omit [Th] in
theorem rK:∀(xs ys:Sz),gC (xs.map .int) (ys.map .int)=decide (xs=ys)
 | [],[]=>rfl
 | [],y::ys=>rfl
 | x::xs,[]=>rfl
 | x::xs,y::ys=>by
  show gC (.int x::xs.map .int) (.int y::ys.map .int)=_;unfold gC;rw[rK xs ys,show ib (.int x) (.int y)=(x==y) by unfold ib;rfl,OM];simp
theorem zN{f g:Fe}{env:En}{xs ys:Sz}(h1:f env=some (.lst (xs.map .int)))(h2:g env=some (.lst (ys.map .int))):ai cy f g env=some (.bl (decide (xs=ys))):=by
 have dp:∀xs:Sz,fw (.lst (xs.map .int))<=60:=λxs=>C_ (u9 (n:=0) λd hd=>by obtain⟨i,_,rfl⟩:=x_.mp hd;rw[hU];exact h_ _) (by decide);have pp:∀xs:Sz,pl (.lst (xs.map .int))=true:=λxs=>by unfold pl;exact pZ xs λx _=>by unfold pl;rfl
 exact FK h1 h2 (Fq (dp xs) (by rw[pp,pp];rfl)) (by rw[ib];exact rK xs ys)
theorem zM{R C:Nat}(hR:R<=4)(hC:C<=5)(hs:List (List Sh))(hl:hs.length<=1000)(H:∀h∈hs,HC R C h)(P:Pn)(hd:P.dp<70):m_plan_holds [.lst (hs.map aC),P.D]=some (.bl (decide (hs.map (λh=>P.en (m7 h))=(List.range hs.length).map λ(i:Nat)=>((0+i:Nat):Int)))):=by
 have cv:∀h∈hs,(λp=>decide (p∈fD h))=m7 h:=λh hh=>by
  funext p;rw[OM,w_];exact(H h hh).mem hR hC
 have g:=dg (t:=md [0,1]) (k:=a5 (ai cy (λenv=>((aa aw (aa ah fNil)) env).bind m_number_by) aj)) (env:=[.un,.un,.F P.D]) hD (λx=>D.bl (P.en (m7 x.2)==((x.1:Nat):Int))) (gQ 0 hs) λx hx=>by
  have hx2:=oj hx;have n1:=xX (sN hR hC (H x.2 hx2)) P hd;rw[cv x.2 hx2]at n1;have w:(λenv=>((aa aw (aa ah fNil)) env).bind m_number_by) [.F (.int (x.1:Nat)),.F (aC x.2),.F P.D]=some (.int (P.en (m7 x.2))):=(call_v (af (d:=P.D) rfl (af (d:=aC x.2) rfl aE))).trans n1;exact⟨[.F (.int (x.1:Nat)),.F (aC x.2),.F P.D],rfl,i0 ((az (g:=λenv=>bf env 0) (f:=λenv=>((aa aw (aa ah fNil)) env).bind m_number_by) w rfl).trans (ua _ _))⟩
 have e:((gQ 0 hs).map λx=>D.bl (P.en (m7 x.2)==((x.1:Nat):Int)))=((gQ 0 hs).map λx=>(P.en (m7 x.2)==((x.1:Nat):Int))).map D.bl:=by rw[OA];rfl
 rw[e]at g;have c1:=cg (fi:=yi aj) (env:=aT 2 [.lst (hs.map aC),P.D]) (pN rfl) (n:=2) (caps:=[1]) (is:=[0,1]) rfl (by rw[yW];exact g) (by rw[c_,c_,n4];lia);rw[<- all_range (λh=>P.en (m7 h)) 0 hs];exact aV (f:=F_plan_holds) (bu (Ip c1))
abbrev eL(sc:Slot)(c:Int)(sh fl ru ro:D)(hs:List (List Sh))(ce:D)(s8 s9 gi eX dR:Slot):En:=[sc,.F (.int c),.F sh,.F fl,.F ru,.F ro,.F (.lst (hs.map aC)),.F ce,s8,s9,gi,eX,dR]
theorem Cn{R C:Nat}(hR:R<=4)(hC:C<=5)(hs:List (List Sh))(hl:hs.length<=6)(H:∀h∈hs,HC R C h)(P:Pn)(hd:P.dp<70)(hc:cnt P<=8000000)(sc:Slot)(c:Int)(sh fl ru ro ce:D)(s8 s9 eX dR:Slot) :
  ∃kK nQ,jk (eL sc c sh fl ru ro hs ce s8 s9 (.F P.D) eX dR)=some (.nx (eL sc c sh fl ru ro hs ce s8 s9 (.F P.D) kK nQ)):=by
 have g:=dg (t:=bZ 0) (k:=a5 (λenv=>((aa ah (aa (λenv=>((aa aj fNil) env).bind m__law_ground) fNil)) env).bind m__law_end)) (env:=[.un,.F P.D]) aC (λh=>D.int (P.en (m7 h))) hs λh hh=>by
  obtain⟨ks,k1,_,k2⟩:=wH h (H h hh).len λs hs=>((H h hh).sz s hs).2;have le:=xI ks P hd;rw[show(λp=>decide (p∈ks))=m7 h from funext λp=>by rw[OM,w_];exact k2 p]at le;have w0:(λenv=>((aa aj fNil) env).bind m__law_ground) [.F (aC h),.F P.D]=some (cP ks):=(call_v (af (d:=aC h) rfl aE)).trans k1;exact⟨[.F (aC h),.F P.D],rfl,i0 ((call_v (af (d:=P.D) rfl (af (f:=λenv=>((aa aj fNil) env).bind m__law_ground) w0 aE))).trans le)⟩
 rw[show(hs.map λh=>D.int (P.en (m7 h)))=(hs.map λh=>P.en (m7 h)).map D.int by rw[OA];rfl]at g;have c1:=cg (fi:=ie bw) (env:=eL sc c sh fl ru ro hs ce s8 s9 (.F P.D) eX dR) (cm rfl) (n:=1) (caps:=[10]) (is:=[0]) rfl g (by rw[c_,c_];lia)
 let b:Bool:=decide (hs.map (λh=>P.en (m7 h))=(List.range hs.length).map λ(i:Nat)=>((0+i:Nat):Int))
 let kK:Slot:=.F (.lst ((hs.map λh=>P.en (m7 h)).map D.int))
 have w2:(λenv=>((aa (bc oQ bw) (aa bS fNil)) env).bind m_plan_holds) (eL sc c sh fl ru ro hs ce s8 s9 (.F P.D) kK dR)=some (.bl b):=(call_v (af (Cz (ds:=hs.map aC) rfl) (af (d:=P.D) rfl aE))).trans (zM hR hC hs (by lia) H P hd)
 let E:En:=eL sc c sh fl ru ro hs ce s8 s9 (.F P.D) kK (.F (.bl b))
 have lr:bc Cm (bc bY bw) E=some (.lst (((List.range hs.length).map λ(i:Nat)=>((0+i:Nat):Int)).map D.int)):=by
  refine(jD (gA (ds:=hs.map aC) rfl)).trans ?_;rw[c_];show(if 0<=((hs.length:Nat):Int)/\((hs.length:Nat):Int)<=1000000 then some (D.lst (ES ((hs.length:Nat):Int).toNat))else none)=_;rw[k_ ⟨by lia,by lia⟩,OC];unfold ES;rw[OA];congr 2;refine P3 λi _=>?_;show D.int (i:Int)=D.int ((0+i:Nat):Int);rw[Oy]
 have t1:fB (ai vg cG (ai cy l8 (bc Cm (bc bY bw)))) E=some false:=dO (q8 (d:=.bl b) rfl (zN rfl lr) (by rw[show fw (.bl b)=0 by unfold fw;rfl];decide) (by unfold pl;rfl));have N2:(λenv=>((aa bS fNil) env).bind m_depth_of) E=some (.int (P.dp:Nat)):=(call_v (af (d:=P.D) rfl aE)).trans (uH P hd hc);have dp2:(λenv=>((aa bS fNil) env).bind cj) E=some (.int (P.dp:Nat)):=(call_v (af (d:=P.D) rfl aE)).trans (rJ P hd);have t2:fB (ai vg (λenv=>((aa bS fNil) env).bind m_depth_of) (λenv=>((aa bS fNil) env).bind cj)) E=some false:=dO (q8 (f:=λenv=>((aa bS fNil) env).bind m_depth_of) (g:=λenv=>((aa bS fNil) env).bind cj) N2 dp2 (by rw[hU];decide) (by unfold pl;rfl));have t3:fB (bc (Dh .bool) (λenv=>((aa bS fNil) env).bind m_depth_of)) E=some false:=dO ((jD (f:=λenv=>((aa bS fNil) env).bind m_depth_of) N2).trans rfl);refine⟨kK,.F (.bl b),(ak (e:=eL sc c sh fl ru ro hs ce s8 s9 (.F P.D) kK dR) (aS c1)).trans ((ak (e:=E) (aS (i:=12) (f:=λenv=>((aa (bc oQ bw) (aa bS fNil)) env).bind m_plan_holds) w2)).trans ((ak (e:=E) ((be (zG (p:=false) (q:=false) rfl λ_=>t1)).trans rfl)).trans ((be (zG (p:=false) (q:=false) t2 λ_=>t3)).trans rfl)))⟩
theorem rZ{R C:Nat}(hR:R<=4)(hC:C<=5)(hs:List (List Sh))(hl:hs.length<=6)(H:∀h∈hs,HC R C h)(Ps:List Pn)(hp:∀P∈Ps,P.dp<70/\cnt P<=8000000)(sc:Slot)(c:Int)(sh fl ru ro ce:D)(s9 gi eX dR:Slot) :
  ∃sV kK nQ,aD (si 8) (dD (ie ko) (bZ 10) jk) (eL sc c sh fl ru ro hs ce (.O (.L (Ps.map Pn.D))) s9 gi eX dR)=some (.nx (eL sc c sh fl ru ro hs ce (.F (.lst (Ps.map Pn.D))) s9 sV kK nQ)):=by
 obtain⟨e2,g1,sV,kK,nQ,rfl⟩:=mE (t:=bZ 10) (body:=jk) (λe=>∃sV kK nQ,e=eL sc c sh fl ru ro hs ce (.F (.lst (Ps.map Pn.D))) s9 sV kK nQ) (Ps.map Pn.D) (eL sc c sh fl ru ro hs ce (.F (.lst (Ps.map Pn.D))) s9 gi eX dR) ⟨_,_,_,rfl⟩ λd hd e he=>by
  obtain⟨sV,kK,nQ,rfl⟩:=he;obtain⟨P,hP,rfl⟩:=x_.mp hd;obtain⟨u11,u12,u⟩:=Cn hR hC hs hl H P (hp P hP).1 (hp P hP).2 sc c sh fl ru ro ce (.F (.lst (Ps.map Pn.D))) s9 kK nQ;exact⟨_,fM (e0:=eL sc c sh fl ru ro hs ce (.F (.lst (Ps.map Pn.D))) s9 (.F P.D) kK nQ) rfl u,_,_,_,rfl⟩
 exact⟨sV,kK,nQ,(ak rfl).trans ((cF (cm rfl)).trans g1)⟩
theorem Gb(sc:Slot)(c:Int)(s2 s3 s4 s5 s6 s7 s8 s9 gi eX dR:Slot):∃t2 t3 t4 t5 t6 t7 t8 t9 sV kK nQ,k8 [sc,.F (.int c),s2,s3,s4,s5,s6,s7,s8,s9,gi,eX,dR]=some (.nx [sc,.F (.int c),t2,t3,t4,t5,t6,t7,t8,t9,sV,kK,nQ]):=by
 obtain⟨R,C,fl,ru,p1,p2,p3⟩:=w8 c;have hR:=p2.r4;have hC:=p2.c5;obtain⟨hs,y1,y2,y3,y4⟩:=BZ c _ p3 p2.len;have H:∀h∈hs,HC R C h:=λh hh=>p2.hc (y4 h hh);have cells:=GV R C hR hC;have c0:qG R C≠[]:=by
  intro z;have:((0:Int),(0:Int))∈qG R C:=pK.mpr ⟨by decide,by have:=p2.r0;show(0:Int)<(R:Nat);lia,by decide,by have:=p2.c0;show(0:Int)<(C:Nat);lia⟩;rw[z]at this;cases this
 have e40:∀e:En,bf e 1=some (.int c)->ai modI ah (ai powI (fC (.int 10)) (fC (.int 40))) e=some (.int (c%10 ^ 40)):=λe he=>(az he ((az rfl rfl).trans (iY (gG (by decide) (by decide)) (by decide) (by decide)))).trans (eJ (by decide +kernel));obtain⟨P0,q1,q2,q3⟩:=zD (qG R C) c0 ((hs.length:Nat):Int) (by lia) 5 4 (c%10 ^ 40) (by decide) (by decide) (O8 _ (by decide +kernel)) (Int.lt_of_lt_of_le (OV _ (by decide +kernel)) (by unfold Bg;decide +kernel))
 let sh:D:=.tup [.int R,.int C]
 let ro:D:=.lst ((eR R C ru fl fl.length).map aC)
 let ce:D:=.lst ((qG R C).map cel)
 have w0:(λenv=>((aa ah fNil) env).bind m__law_played) [sc,.F (.int c),s2,s3,s4,s5,s6,s7,s8,s9,gi,eX,dR]=some (.tup [sh,jr fl,.str ru,ro]):=(call_v (af (d:=.int c) rfl aE)).trans p1;have w1:(λenv=>((aa ah (aa cX (aa (fC (.int 6)) fNil))) env).bind m__law_some_hidings) [sc,.F (.int c),.F sh,.F (jr fl),.F (.str ru),.F ro,s6,s7,s8,s9,gi,eX,dR]=some (.lst (hs.map aC)):=(call_v (af (d:=.int c) rfl (af (d:=ro) rfl (af (d:=.int 6) rfl aE)))).trans y1;have w2:(λenv=>((aa aw fNil) env).bind m__law_sheet_cells) [sc,.F (.int c),.F sh,.F (jr fl),.F (.str ru),.F ro,.F (.lst (hs.map aC)),s7,s8,s9,gi,eX,dR]=some ce:=(call_v (af (d:=sh) rfl aE)).trans cells;have w3:bN (aa (λenv=>((aa (ai modI ah (ai powI (fC (.int 10)) (fC (.int 40)))) (aa jv (aa (bc bY bw) (aa S2 fNil)))) env).bind bX) fNil) (eL sc c sh (jr fl) (.str ru) ro hs ce s8 s9 gi eX dR)=some (.lst [P0.D]):=oe (af (f:=λenv=>((aa (ai modI ah (ai powI (fC (.int 10)) (fC (.int 40)))) (aa jv (aa (bc bY bw) (aa S2 fNil)))) env).bind bX) ((call_v (af (e40 _ rfl) (af (d:=ce) rfl (af ((gA (ds:=hs.map aC) rfl).trans (by rw[c_])) (af (d:=.int 4) rfl aE))))).trans q1) aE);have N3:P0.dp<70/\cnt P0<=8000000:=⟨by lia,C_ (RU q3) (by decide)⟩;have head:∀{o:Out}(td:D),m_least_plan [.lst (hs.map aC)]=some td->(aD (gu (fB (ai cy (ai ay fu SY) (fC (.str "plan")))) (aD (gE 8 (ai ay fu S0)) (setO 8 (ai ni (λenv=>zK env 8) (bG (dM (fC (.int 6))) [0] (bZ 0) S3 (a5 (λenv=>((aa (ai addI ah aj) (aa (ai ay aw S0) (aa au fNil))) env).bind cb)) 1 [1,9,7])))) nxF) (aD (si 8) (dD (ie ko) (bZ 10) jk))) (eL sc c sh (jr fl) (.str ru) ro hs ce (.O (.L [P0.D])) (.F td) gi eX dR)=some o->k8 [sc,.F (.int c),s2,s3,s4,s5,s6,s7,s8,s9,gi,eX,dR]=some o:=λ{o} td ht h=>
  (ak (e:=[sc,.F (.int c),.F sh,.F (jr fl),.F (.str ru),.F ro,s6,s7,s8,s9,gi,eX,dR]) (qS (f:=λenv=>((aa ah fNil) env).bind m__law_played) w0 rfl)).trans ((ak (e:=[sc,.F (.int c),.F sh,.F (jr fl),.F (.str ru),.F ro,.F (.lst (hs.map aC)),s7,s8,s9,gi,eX,dR]) (aS (i:=6) (f:=λenv=>((aa ah (aa cX (aa (fC (.int 6)) fNil))) env).bind m__law_some_hidings) w1)).trans ((ak (e:=eL sc c sh (jr fl) (.str ru) ro hs ce s8 s9 gi eX dR) (aS (i:=7) (f:=λenv=>((aa aw fNil) env).bind m__law_sheet_cells) w2)).trans ((ak (e:=eL sc c sh (jr fl) (.str ru) ro hs ce (.O (.L [P0.D])) s9 gi eX dR) (gP (i:=8) w3)).trans ((ak (e:=eL sc c sh (jr fl) (.str ru) ro hs ce (.O (.L [P0.D])) (.F td) gi eX dR) (aS (i:=9) (f:=λenv=>((aa bw fNil) env).bind m_least_plan) ((call_v (af (d:=.lst (hs.map aC)) rfl aE)).trans ht))).trans h))))
 rcases y8 hR hC hs y2 y3 H with ⟨x,y,lp⟩ | ⟨d,P,lp,d1,d2⟩
 .obtain⟨sV,kK,nQ,q⟩:=rZ hR hC hs y3 H [P0] (λP hP=>by rw[u_.mp hP];exact N3) sc c sh (jr fl) (.str ru) ro ce (.F (.tup [.str Ik,x,y])) gi eX dR;exact⟨_,_,_,_,_,_,_,_,sV,kK,nQ,head _ lp ((ak ((be (dO ((az (bO (i:=0) (ds:=[.str Ik,x,y]) rfl rfl rfl) rfl).trans rfl))).trans rfl)).trans q)⟩
 .have bents:∃Qs:List Pn,bG (dM (fC (.int 6))) [0] (bZ 0) S3 (a5 (λenv=>((aa (ai addI ah aj) (aa (ai ay aw S0) (aa au fNil))) env).bind cb)) 1 [1,9,7] (eL sc c sh (jr fl) (.str ru) ro hs ce (.O (.L [P0.D,P.D])) (.F (.tup [.str xH,d,P.D])) gi eX dR)=some (.lst (Qs.map Pn.D))/\(∀Q∈Qs,Q.dp<70/\cnt Q<=8000000)/\Qs.length<=6:=by
   obtain⟨xs,g1,g2,g3⟩:=zl (t:=bZ 0) (c:=λ_=>some true) (k:=a5 (λenv=>((aa (ai addI ah aj) (aa (ai ay aw S0) (aa au fNil))) env).bind cb)) (env:=[.un,.F (.int c),.F (.tup [.str xH,d,P.D]),.F ce]) (P:=λx=>∃Q:Pn,x=Q.D/\Q.dp<70/\cnt Q<=8000000) (aI 0 6) λx hx=>by
    obtain⟨i,_,rfl⟩:=x_.mp hx;obtain⟨Q,r1,r2,r3⟩:=Cc (qG R C) c0 70 P (c+(0+(i:Nat))) (by lia);refine⟨[.F (.int (0+(i:Nat))),.F (.int c),.F (.tup [.str xH,d,P.D]),.F ce],Q.D,rfl,rfl,i0 (f:=λenv=>((aa (ai addI ah aj) (aa (ai ay aw S0) (aa au fNil))) env).bind cb) ((call_v (af ((az rfl rfl).trans (eu _ _)) (af (bO (i:=2) (ds:=[.str xH,d,P.D]) rfl rfl rfl) (af (d:=ce) rfl aE)))).trans r1),Q,rfl,by lia,by lia⟩
   have ch:∀l:SV,(∀x∈l,∃Q:Pn,x=Q.D/\Q.dp<70/\cnt Q<=8000000)->∃Qs:List Pn,l=Qs.map Pn.D/\∀Q∈Qs,Q.dp<70/\cnt Q<=8000000:=λl=>by
    induction l with
    | nil=>exact λ_=>⟨[],rfl,λQ hQ=>by cases hQ⟩
    | cons x l ih=>
     intro h;obtain⟨Q,rfl,hQ⟩:=h x (j_ ..);obtain⟨Qs,rfl,MU⟩:=ih λy hy=>h y (i_ _ hy);exact⟨Q::Qs,rfl,λZ hZ=>by
      rcases s_.mp hZ with rfl | hZ
      .exact hQ
      .exact MU Z hZ⟩
   obtain⟨Qs,rfl,MU⟩:=ch xs g3;exact⟨Qs,cg (dB (n:=6) rfl (by decide)) rfl g1 (by rw[g2];decide),MU,by rw[c_]at g2;rw[g2];decide⟩
  obtain⟨Qs,b1,b2,bl⟩:=bents;have ap:gE 8 (ai ay fu S0) (eL sc c sh (jr fl) (.str ru) ro hs ce (.O (.L [P0.D])) (.F (.tup [.str xH,d,P.D])) gi eX dR)=some (.nx (eL sc c sh (jr fl) (.str ru) ro hs ce (.O (.L [P0.D,P.D])) (.F (.tup [.str xH,d,P.D])) gi eX dR)):=ky (i:=8) (ds:=[P0.D]) rfl (bO (i:=2) (ds:=[.str xH,d,P.D]) rfl rfl rfl) (by show 1<16000000;decide);obtain⟨sV,kK,nQ,q⟩:=rZ hR hC hs y3 H ([P0,P]++Qs) (λQ hQ=>by
   rcases Oz.mp hQ with z | z
   .rcases s_.mp z with rfl | z
    .exact N3
    .rw[u_.mp z];exact⟨by lia,by lia⟩
   .exact b2 Q z) sc c sh (jr fl) (.str ru) ro ce (.F (.tup [.str xH,d,P.D])) gi eX dR
  have so:setO 8 (ai ni (λenv=>zK env 8) (bG (dM (fC (.int 6))) [0] (bZ 0) S3 (a5 (λenv=>((aa (ai addI ah aj) (aa (ai ay aw S0) (aa au fNil))) env).bind cb)) 1 [1,9,7])) (eL sc c sh (jr fl) (.str ru) ro hs ce (.O (.L [P0.D,P.D])) (.F (.tup [.str xH,d,P.D])) gi eX dR)=some (.nx (eL sc c sh (jr fl) (.str ru) ro hs ce (.O (.L (([P0,P]++Qs).map Pn.D))) (.F (.tup [.str xH,d,P.D])) gi eX dR)):=by
   rw[OB];exact gP (i:=8) (tK (xs:=[P0.D,P.D]) rfl b1 (by rw[c_];show 2+_<=_;lia))
  exact⟨_,_,_,_,_,_,_,_,sV,kK,nQ,head _ lp ((ak ((cf (dO ((az (bO (i:=0) (ds:=[.str xH,d,P.D]) rfl rfl rfl) rfl).trans rfl))).trans ((ak ap).trans so))).trans q)⟩
theorem law_true(ns:Sz)(hl:ns.length<=63):m_law [.lst (ns.map .int)]=some (.bl true):=by
 obtain⟨e2,g1,t1,t2,t3,t4,t5,t6,t7,t8,t9,sV,kK,nQ,rfl⟩:=mE (t:=bZ 1) (body:=k8) (λe=>∃s1 s2 s3 s4 s5 s6 s7 s8 s9 gi eX dR,e=[.F (.lst (ns.map .int)),s1,s2,s3,s4,s5,s6,s7,s8,s9,gi,eX,dR]) (((0:Int)::ns.take 12).map .int) (aT 13 [.lst (ns.map .int)]) ⟨_,_,_,_,_,_,_,_,_,_,_,_,rfl⟩ λd hd e aG=>by
  obtain⟨s1,s2,s3,s4,s5,s6,s7,s8,s9,gi,eX,dR,he⟩:=aG;subst he;obtain⟨c,_,rfl⟩:=x_.mp hd;obtain⟨t2,t3,t4,t5,t6,t7,t8,t9,sV,kK,nQ,u⟩:=Gb (.F (.lst (ns.map .int))) c s2 s3 s4 s5 s6 s7 s8 s9 gi eX dR;exact⟨_,fM (e0:=[.F (.lst (ns.map .int)),.F (.int c),s2,s3,s4,s5,s6,s7,s8,s9,gi,eX,dR]) rfl u,_,_,_,_,_,_,_,_,_,_,_,_,rfl⟩
 refine aV ((ak ((cF (cm ?_)).trans g1)).trans rfl);exact(tK (xs:=[.int 0]) (ys:=(ns.map .int).take 12) rfl (D8 (m:=12) rfl rfl) (by simp;lia)).trans (by rw[<- RV];rfl)
end K30
namespace K30
open PySem PySem.Spec PyProof.Rows L2 Mi
abbrev pg:SF:=PySem.Challenge.pw_fleethide_k30_plans_judged
variable [Th]
def gt(n:Nat):SO:=pg.main.body.getD n (.Pass ⟨0,0,0,0⟩)
def st__law_stir:=gt 20
def st__law_drawn:=gt 21
def st__law_game:=gt 27
def st__law_ships:=gt 23
def st__law_cells:=gt 22
def st__law_halo:=gt 24
def st__law_free:=gt 26
def st__law_all:=gt 25
def st__law_played:=gt 28
def st__law_order:=gt 30
def st__law_some_hidings:=gt 34
def st__law_sheet_cells:=gt 29
def st__law_drawn_plan:=gt 35
def st_cells_of:=gt 4
def st_lying_cells:=gt 5
def st_alike_pairs:=gt 13
def st_cells_by_lot:=gt 14
def st_depth_behind:=gt 17
def st_best_shown:=gt 16
def st_least_depths:=gt 15
def st_plan_for:=gt 18
def st_least_plan:=gt 12
def st__law_bent:=gt 36
def st__law_end:=gt 32
def st__law_ground:=gt 31
def st_number_by:=gt 9
def st_plan_holds:=gt 8
def st_looks_among:=gt 11
def st_depth_of:=gt 10
def st__law_depth:=gt 33
def st_law:=gt 37
structure Tx(W:Wd):Prop where
 z_all:W.mg "all"=none
 z_bool:W.mg "bool"=none
 z_enumerate:W.mg "enumerate"=none
 z_int:W.mg "int"=none
 z_isinstance:W.mg "isinstance"=none
 z_len:W.mg "len"=none
 z_list:W.mg "list"=none
 z_max:W.mg "max"=none
 z_min:W.mg "min"=none
 z_range:W.mg "range"=none
 z_sorted:W.mg "sorted"=none
 z_sum:W.mg "sum"=none
 z_tuple:W.mg "tuple"=none
 e_MOST_PLANNED:∃v u,W.mg "MOST_PLANNED"=some u/\RelV v u/\∀Z,Rep W.K Z d6 v
 hw:Th.h=hashStr W.w
section
variable {W:Wd}
abbrev dm(W:Wd):Prop:=W.Q 1 "_law_stir" 2 .cl m__law_stir
abbrev fL(W:Wd):Prop:=W.Q 2 "_law_drawn" 2 .nw m__law_drawn
abbrev kG(W:Wd):Prop:=W.Q 3 "_law_game" 1 .cl m__law_game
abbrev jh(W:Wd):Prop:=W.Q 1 "_law_ships" 2 .nw m__law_ships
abbrev dN(W:Wd):Prop:=W.Q 1 "_law_cells" 1 .nw m__law_cells
abbrev ku(W:Wd):Prop:=W.Q 2 "_law_halo" 2 .nm m__law_halo
abbrev kF(W:Wd):Prop:=W.Q 1 "_law_free" 2 .cl m__law_free
abbrev lH(W:Wd):Prop:=W.Q 3 "_law_all" 3 .nw m__law_all
abbrev iI(W:Wd):Prop:=W.Q 4 "_law_played" 1 .cl m__law_played
abbrev ji(W:Wd):Prop:=W.Q 2 "_law_order" 2 .nw m__law_order
abbrev dG(W:Wd):Prop:=W.Q 3 "_law_some_hidings" 3 .cl m__law_some_hidings
abbrev d8(W:Wd):Prop:=W.Q 1 "_law_sheet_cells" 1 .nw m__law_sheet_cells
abbrev et(W:Wd):Prop:=W.Q 6 "_law_drawn_plan" 4 .cl bX
abbrev mS(W:Wd):Prop:=W.Q 1 "cells_of" 1 .nw m_cells_of
abbrev eQ(W:Wd):Prop:=W.Q 2 "lying_cells" 1 .cl m_lying_cells
abbrev iu(W:Wd):Prop:=W.Q 1 "alike_pairs" 1 .cl m_alike_pairs
abbrev gU(W:Wd):Prop:=W.Q 1 "cells_by_lot" 1 .cl m_cells_by_lot
abbrev ej(W:Wd):Prop:=W.Q 1 "depth_behind" 3 .cl m_depth_behind
abbrev fR(W:Wd):Prop:=W.Q 4 "best_shown" 3 .cl m_best_shown
abbrev gJ(W:Wd):Prop:=W.Q 5 "least_depths" 2 .cl m_least_depths
abbrev mD(W:Wd):Prop:=W.Q 68 "plan_for" 3 .cl iX
abbrev jf(W:Wd):Prop:=W.Q 69 "least_plan" 1 .cl m_least_plan
abbrev kE(W:Wd):Prop:=W.Q 72 "_law_bent" 3 .cl cb
abbrev mL(W:Wd):Prop:=W.Q 1 "_law_end" 2 .cl m__law_end
abbrev iH(W:Wd):Prop:=W.Q 2 "_law_ground" 1 .nm m__law_ground
abbrev kI(W:Wd):Prop:=W.Q 3 "number_by" 2 .cl m_number_by
abbrev Q_plan_holds(W:Wd):Prop:=W.Q 4 "plan_holds" 2 .cl m_plan_holds
abbrev iG(W:Wd):Prop:=W.Q 1 "looks_among" 1 .cl m_looks_among
abbrev lC(W:Wd):Prop:=W.Q 2 "depth_of" 1 .cl m_depth_of
abbrev jy(W:Wd):Prop:=W.Q 70 "_law_depth" 1 .cl cj
theorem qf(h:W.At "_law_stir" st__law_stir)(T:Tx W):dm W:=kr ["cell","k","number"] 2 h λ_ _ _ _ _ _ _ hr hN=>(aq (a8 2 (kB (aY (aY (bA (ae 0) (mz ag ag)) (kB ag (ae 1))) ag) ag) hN) (aq (a8 2 (bA (ae 2) ag) hN) (aB (a9 (jT (bA (mz (aY (mz (ae 2) ag) (kB ag (ae 1))) ag) ag) ag)))))
theorem m9(h:W.At "_law_drawn" st__law_drawn)(T:Tx W)(bo:dm W):fL W:=kr ["cell","sizes","found","rest","k"] 2 h λ_ _ _ _ _ _ _ hr hN=>(aq (fY 2 (bU ao) hN) (aq (a8 3 (ae 0) hN) (aq (cQ L_ rfl (bI T.z_range (fq T.z_len (ae 1))) (aZ 4 hN) (aB (dC (Hv (w_or (Lf (ae 0) (mz ag ag)) (vp (eM hr (ae 3) ag)))) (aB (mm 2 (bA (aW bo hr (ab (ae 0) (ab (ae 4) ao))) (aJ (ae 1) (ae 4))))) (aq (mm 2 (bA (ae 3) (aJ (ae 1) (ae 4)))) (aB (a8 3 (jT (ae 3) (aJ (ae 1) (ae 4))) hN)))))) (aB (lz 2)))))
theorem pz(h:W.At "_law_game" st__law_game)(T:Tx W)(gj:fL W):kG W:=kr ["cell","way","rows","columns","first","second","third","rule","sheet","fleet"] 1 h λ_ _ _ _ _ _ _ hr hN=>(aq (D5 rfl (cV (aW gj hr (ab (ae 0) (ab (cV (bU (ab ag (ab ag (ab ag (ab ag (ab ag (ab ag (ab ag ao))))))))) ao)))) (aA 1 hN (aA 2 hN (aA 3 hN (aA 4 hN (aA 5 hN (aA 6 hN (aA 7 hN cq)))))))) (aq (a8 8 (aJ (bU (ab (aR (ab (aY ag (ae 2)) (ab (aY ag (ae 3)) ao))) (ab (aR (ab (aY ag (bA (ae 2) ag)) (ab (aY ag (bA (ae 3) ag)) ao))) (ab (aR (ab (aY ag (bA (ae 2) ag)) (ab (aY ag (bA (ae 3) ag)) ao))) ao)))) (Ir T.z_min rfl (ae 1) ag)) hN) (aq (dC (eM hr (ae 1) ag) (aB (a8 8 (aR (ab ag (ab (aY ag (ae 3)) ao))) hN)) bT) (aq (a8 9 (aJ (bU (ab (aR (ab (aY ag (ae 4)) ao)) (ab (aR (ab (aY ag (bA (ae 4) ag)) (ab (aY ag (bA (ae 5) ag)) ao))) (ab (aR (ab (aY ag (bA (ae 4) ag)) (ab (aY ag (bA (ae 5) ag)) (ab (aY ag (bA (ae 6) ag)) ao)))) ao)))) (bA (ae 1) ag)) hN) (aq (dC (eM hr (ae 1) ag) (aB (a8 9 (aR (ab (aY ag (bA (ae 4) ag)) (ab (aY ag (bA (ae 5) ag)) (ab (aY ag (bA (ae 6) ag)) ao)))) hN)) bT) (aq (a8 9 (B3 T.z_tuple (IY (z7 T.z_sorted (ae 9)))) hN) (aB (a9 (aR (ab (ae 8) (ab (ae 9) (ab (aJ (bU (ab bH (ab bH (ab bH ao)))) (ae 7)) ao))))))))))))
theorem nj(h:W.At "_law_ships" st__law_ships)(T:Tx W):jh W:=kr ["sheet","length","found","row","column"] 2 h λ_ _ _ _ _ _ _ hr hN=>(aq (fY 2 (bU ao) hN) (aq (cQ L_ rfl (bI T.z_range (aJ (ae 0) ag)) (aZ 3 hN) (aB (cQ L_ rfl (bI T.z_range (aJ (ae 0) ag)) (aZ 4 hN) (aq (dC (IB (aY (ae 4) (ae 1)) (aJ (ae 0) ag)) (aB (mm 2 (aR (ab (ae 3) (ab (ae 4) (ab bH (ab (ae 1) ao))))))) bT) (aB (dC (Hv (w_and (IB (aY (ae 3) (ae 1)) (aJ (ae 0) ag)) (yM (Md (ae 1) ag)))) (aB (mm 2 (aR (ab (ae 3) (ab (ae 4) (ab bH (ab (ae 1) ao))))))) bT)))))) (aB (lz 2))))
theorem ng(h:W.At "_law_cells" st__law_cells)(T:Tx W):dN W:=kr ["ship","row","column","way","length","found","k"] 1 h λ_ _ _ _ _ _ _ hr hN=>(aq (AG rfl (ae 0) (aA 1 hN (aA 2 hN (aA 3 hN (aA 4 hN cq))))) (aq (fY 5 (bU ao) hN) (aq (cQ L_ rfl (bI T.z_range (ae 4)) (aZ 6 hN) (aB (mm 5 (aR (ab (aY (ae 1) (kB (ae 6) (tH T.z_int (zu hr (ae 3) bH)))) (ab (aY (ae 2) (kB (ae 6) (tH T.z_int (zu hr (ae 3) bH)))) ao)))))) (aB (lz 5)))))
theorem qt(h:W.At "_law_halo" st__law_halo)(T:Tx W)(cU:dN W):ku W:=kr ["rule","ship","found","steps","row","column","down","right"] 2 h λ_ _ _ _ _ _ _ hr hN=>(aq (Ae 2 (yD T.hw) hN) (aq (a8 3 (cV (bU (ab (aR (ab ag (ab ag ao))) ao))) hN) (aq (dC (Fj hr (ae 0) bH) (aB (a8 3 (cV (lE (ae 3) (bU (ab (aR (ab ag (ab ag ao))) (ab (aR (ab ag (ab ag ao))) (ab (aR (ab ag (ab (iy ag) ao))) (ab (aR (ab (iy ag) (ab ag ao))) ao))))))) hN)) bT) (aq (dC (eM hr (ae 0) bH) (aB (a8 3 (cV (lE (ae 3) (bU (ab (aR (ab ag (ab ag ao))) (ab (aR (ab ag (ab (iy ag) ao))) (ab (aR (ab (iy ag) (ab ag ao))) (ab (aR (ab (iy ag) (ab (iy ag) ao))) ao))))))) hN)) bT) (aq (cQ L_ rfl (bC (cV (aW cU hr (ab (ae 1) ao)))) (iA rfl (aA 4 hN (aA 5 hN cq))) (aB (cQ L_ rfl (bC (ae 3)) (iA rfl (aA 6 hN (aA 7 hN cq))) (aB (AB 2 T.hw hr uv (aR (ab (aY (ae 4) (ae 6)) (ab (aY (ae 5) (ae 7)) ao)))))))) (aB (zc 2)))))))
theorem pI(h:W.At "_law_free" st__law_free)(T:Tx W):kF W:=kr ["halo","ground","one","cell"] 2 h λ_ _ _ _ _ _ _ hr hN=>(aq (cQ L_ rfl (bC (ae 0)) (aZ 2 hN) (aB (cQ L_ rfl (bC (ae 1)) (aZ 3 hN) (aB (dC (JN T.hw hr (ae 3) (ae 2)) (aB (a9 uv)) bT))))) (aB (a9 uv)))
theorem sG(h:W.At "_law_all" st__law_all)(T:Tx W)(k__law_ships:jh W)(k__law_halo:ku W)(cU:dN W)(k__law_free:kF W):lH W:=kr ["sheet","fleet","rule","rows","place","length","ships","halos","grounds","longer","hiding","halo","k","later"] 3 h λ_ _ _ _ _ _ _ hr hN=>(aq (a8 3 (cV (bU (ab (aR (ab (aR ao) (ab (cV (bU ao)) ao))) ao))) hN) (aq (cQ L_ rfl (pH T.z_enumerate (ae 1)) (iA rfl (aA 4 hN (aA 5 hN cq))) (aq (a8 6 (cV (aW k__law_ships hr (ab (ae 0) (ab (ae 5) ao)))) hN) (aq (jJ 7 (jS (Nc:=["ship","rule"]) (own:=["ship"]) (caps:=[2]) (b9 0) rfl (bC (ae 6)) rfl rfl (λ_ _ _ _ _ _=>have hN:=(by decide +kernel:List.Nodup (["ship","rule"]:Su));(bj (λ_ _ z=>z) (aZ 0 hN) bQ (DW (aW k__law_halo hr (ab (ae 1) (ab (ae 0) ao))))))) hN) (aq (jJ 8 (jS (Nc:=["ship"]) (own:=["ship"]) (caps:=[]) (b9 0) rfl (bC (ae 6)) rfl rfl (λ_ _ _ _ _ _=>have hN:=(by decide +kernel:List.Nodup (["ship"]:Su));(bj (λ_ _ z=>z) (aZ 0 hN) bQ (cV (aW cU hr (ab (ae 0) ao)))))) hN) (aq (fY 9 (bU ao) hN) (aq (cQ L_ rfl (bC (ae 3)) (iA rfl (aA 10 hN (aA 11 hN cq))) (aB (cQ L_ rfl (bI T.z_range (fq T.z_len (ae 6))) (aZ 12 hN) (aq (a8 13 (IF (zu hr (ae 4) ag) (IF (LI hr (aJ (ae 1) (jz (ae 4) ag)) (ae 5)) (JG (H9 hr (aJ (ae 10) (iy ag)) (aJ (ae 6) (ae 12)))))) hN) (aB (dC (Hv (w_and (vd (ae 13)) (yM (vd (aW k__law_free hr (ab (ae 11) (ab (aJ (ae 8) (ae 12)) ao))))))) (aB (mm 9 (aR (ab (o7 (ae 10) (aR (ab (aJ (ae 6) (ae 12)) ao))) (ab (cV (lE (ae 11) (bU (ab (aJ (ae 7) (ae 12)) ao)))) ao))))) bT)))))) (vP 9 (aB (a8 3 (ae 9) hN))))))))) (aB (a9 (dX (Nc:=["hiding","halo"]) (own:=["hiding","halo"]) (caps:=[]) (qB [0,1]) rfl (bC (ae 3)) rfl rfl (λ_ _ _ _ _ _=>have hN:=(by decide +kernel:List.Nodup (["hiding","halo"]:Su));(bj (λ_ _ z=>z) (iA rfl (aA 0 hN (aA 1 hN cq))) bQ (ae 0))))))))
theorem lA(h:W.At "_law_played" st__law_played)(T:Tx W)(k__law_game:kG W)(m5:lH W):iI W:=kr ["cell","sheet","fleet","rule","rows"] 1 h λ_ _ _ _ _ _ _ hr hN=>(aq (AG rfl (aW k__law_game hr (ab (ae 0) ao)) (aA 1 hN (aA 2 hN (aA 3 hN cq)))) (aq (a8 4 (cV (aW m5 hr (ab (ae 1) (ab (ae 2) (ab (ae 3) ao))))) hN) (aq (dC (eM hr (ae 4) (bU ao)) (aq (a8 2 (aR (ab ag ao)) hN) (aB (a8 4 (cV (aW m5 hr (ab (ae 1) (ab (ae 2) (ab (ae 3) ao))))) hN))) bT) (aB (a9 (aR (ab (ae 1) (ab (ae 2) (ab (ae 3) (ab (ae 4) ao))))))))))
theorem nz(h:W.At "_law_order" st__law_order)(T:Tx W)(bo:dm W):ji W:=kr ["cell","things","found","k","thing"] 2 h λ_ _ _ _ _ _ _ hr hN=>(aq (fY 2 (bU ao) hN) (aq (cQ L_ rfl (pH T.z_enumerate (ae 1)) (iA rfl (aA 3 hN (aA 4 hN cq))) (aB (Jh 2 (bA (aW bo hr (ab (ae 0) (ab (aY (kB ag (ae 3)) ag) ao))) (aY (ae 3) ag)) (ae 4)))) (aB (lz 2))))
theorem gT(h:W.At "_law_some_hidings" st__law_some_hidings)(T:Tx W)(bo:dm W)(k__law_order:ji W):dG W:=kr ["cell","rows","most","many","step"] 3 h λ_ _ _ _ _ _ _ hr hN=>(aq (a8 3 (aY ag (bA (aW bo hr (ab (ae 0) (ab ag ao))) (ae 2))) hN) (aq (a8 4 (aY ag (bA (aW bo hr (ab (ae 0) (ab ag ao))) (vk T.z_max rfl ag (jT (fq T.z_len (ae 1)) (ae 3))))) hN) (aB (a9 (cV (aW k__law_order hr (ab (ae 0) (ab (cV (Ec (Mc (ae 1) (jV (bA (aW bo hr (ab (ae 0) (ab ag ao))) (vk T.z_max rfl ag (jT (fq T.z_len (ae 1)) ag)))) l7 (jV (ae 4))) l7 (jV (ae 3)))) ao))))))))
theorem ij(h:W.At "_law_sheet_cells" st__law_sheet_cells)(T:Tx W):d8 W:=kr ["sheet","found","row"] 1 h λ_ _ _ _ _ _ _ hr hN=>(aq (fY 1 (bU ao) hN) (aq (cQ L_ rfl (bI T.z_range (aJ (ae 0) ag)) (aZ 2 hN) (aB (Jx 1 (dX (Nc:=["column","row"]) (own:=["column"]) (caps:=[2]) (b9 0) rfl (bI T.z_range (aJ (ae 0) ag)) rfl rfl (λ_ _ _ _ _ _=>have hN:=(by decide +kernel:List.Nodup (["column","row"]:Su));(bj (λ_ _ z=>z) (aZ 0 hN) bQ (aR (ab (ae 1) (ab (ae 0) ao))))))))) (aB (lz 1))))
theorem iU(h:W.At "_law_drawn_plan" st__law_drawn_plan)(T:Tx W)(bo:dm W):et W:=KD (k:=1) (m:=aN) (fb:=λi=>bW (aN i)) ["cell","cells","many","deep","spot","one"] 4 5 h rfl (λ_=>rfl) λi K__law_drawn_plan _ _ _ _ _ _ _ hr hN=>(aq (dC (Hv (w_or (eM hr (ae 3) ag) (vp (eM hr (bA (aW bo hr (ab (ae 0) (ab (ae 3) ao))) ag) ag)))) (aB (a9 (aR (ab bH (ab (bA (aW bo hr (ab (ae 0) (ab (aY ag (ae 3)) ao))) (aY (ae 2) ag)) ao))))) bT) (aq (a8 4 (aJ (ae 1) (bA (aW bo hr (ab (ae 0) (ab (aY ag (ae 3)) ao))) (fq T.z_len (ae 1)))) hN) (aq (a8 5 (fW K__law_drawn_plan hr (ab (aY (kB ag (ae 0)) ag) (ab (ae 1) (ab (ae 2) (ab (jz (ae 3) ag) ao))))) hN) (aB (a9 (aR (ab bH (ab (ae 4) (ab (ae 5) (ab (fW K__law_drawn_plan hr (ab (aY (kB ag (ae 0)) ag) (ab (ae 1) (ab (ae 2) (ab (jz (ae 3) ag) ao))))) ao))))))))))
theorem qM(h:W.At "cells_of" st_cells_of)(T:Tx W):mS W:=kr ["ship","row","column","way","length"] 1 h λ_ _ _ _ _ _ _ hr hN=>(aq (AG rfl (ae 0) (aA 1 hN (aA 2 hN (aA 3 hN (aA 4 hN cq))))) (aq (dC (eM hr (ae 3) bH) (aB (a9 (dX (Nc:=["step","row","column"]) (own:=["step"]) (caps:=[1,2]) (b9 0) rfl (bI T.z_range (ae 4)) rfl rfl (λ_ _ _ _ _ _=>have hN:=(by decide +kernel:List.Nodup (["step","row","column"]:Su));(bj (λ_ _ z=>z) (aZ 0 hN) bQ (aR (ab (aY (ae 1) (ae 0)) (ab (ae 2) ao)))))))) bT) (aB (a9 (dX (Nc:=["step","row","column"]) (own:=["step"]) (caps:=[1,2]) (b9 0) rfl (bI T.z_range (ae 4)) rfl rfl (λ_ _ _ _ _ _=>have hN:=(by decide +kernel:List.Nodup (["step","row","column"]:Su));(bj (λ_ _ z=>z) (aZ 0 hN) bQ (aR (ab (ae 1) (ab (aY (ae 2) (ae 0)) ao))))))))))
theorem me(h:W.At "lying_cells" st_lying_cells)(T:Tx W)(k_cells_of:mS W):eQ W:=kr ["hiding"] 1 h λ_ _ _ _ _ _ _ hr hN=>(aB (a9 (cV (v7 T.z_sorted (dX (Nc:=["ship","cell"]) (own:=["ship","cell"]) (caps:=[]) (b9 0) rfl (DR (ae 0)) rfl rfl (λ_ _ _ _ _ _=>have hN:=(by decide +kernel:List.Nodup (["ship","cell"]:Su));(lS (λ_ _ z=>z) rfl (aZ 0 hN) bQ (bC (cV (aW k_cells_of hr (ab (ae 0) ao)))) (b9 1) (bj (λ_ _ z=>z) (aZ 1 hN) bQ (ae 1)))))))))
theorem mr(h:W.At "alike_pairs" st_alike_pairs)(T:Tx W):iu W:=kr ["bodies","pairs"] 1 h λ_ _ _ _ _ _ _ hr hN=>(aq (jJ 1 (jS (Nc:=["other","one"]) (own:=["other","one"]) (caps:=[]) (b9 0) rfl (bI T.z_range (fq T.z_len (ae 0))) rfl rfl (λ_ _ _ _ _ _=>have hN:=(by decide +kernel:List.Nodup (["other","one"]:Su));(lS (λ_ _ z=>z) rfl (aZ 0 hN) bQ (bI T.z_range (ae 0)) (b9 1) (bj (λ_ _ z=>z) (aZ 1 hN) bQ (aR (ab (ae 1) (ab (ae 0) ao))))))) hN) (aB (a9 (cV (v7 T.z_sorted (dX (Nc:=["one","other","bodies"]) (own:=["one","other"]) (caps:=[0]) (qB [0,1]) rfl (bC (ae 1)) rfl rfl (λ_ _ _ _ _ _=>have hN:=(by decide +kernel:List.Nodup (["one","other","bodies"]:Su));(bj (λ_ _ z=>z) (iA rfl (aA 0 hN (aA 1 hN cq))) (pO (λ_ _ z=>z) (eM hr (aJ (ae 2) (ae 0)) (aJ (ae 2) (ae 1)))) (aR (ab (ae 0) (ab (ae 1) ao)))))))))))
theorem kP(h:W.At "cells_by_lot" st_cells_by_lot)(T:Tx W):gU W:=kr ["bodies","cells","cell"] 1 h λ_ _ _ _ _ _ _ hr hN=>(aq (EW 1 T.hw hN) (aq (cQ L_ rfl (bC (cV (BM (Nc:=["body","part"]) (own:=["body","part"]) (caps:=[]) T.z_sorted (b9 0) rfl (bC (ae 0)) rfl rfl (λ_ _ _ _ _ _=>have hN:=(by decide +kernel:List.Nodup (["body","part"]:Su));(xK (λ_ _ z=>z) rfl (aZ 0 hN) bQ (bC (ae 0)) (b9 1) (xA (vj hr) (λ_ _ z=>z) (aZ 1 hN) bQ (ae 1))))))) (aZ 2 hN) (aB (FG 1 T.hw (IW T.z_sum rfl (dX (Nc:=["number","body","cell"]) (own:=["number","body"]) (caps:=[2]) (qB [0,1]) rfl (pH T.z_enumerate (ae 0)) rfl rfl (λ_ _ _ _ _ _=>have hN:=(by decide +kernel:List.Nodup (["number","body","cell"]:Su));(bj (λ_ _ z=>z) (iA rfl (aA 0 hN (aA 1 hN cq))) (pO (λ_ _ z=>z) (IT hr (ae 2) (ae 1))) (Al ag (ae 0)))))) (ae 2)))) (vP 1 (aB (a9 (ae 1))))))
theorem kM(h:W.At "depth_behind" st_depth_behind)(T:Tx W):ej W:=kr ["shown","lot","depths"] 3 h λ_ _ _ _ _ _ _ hr hN=>(aB (a9 (vk T.z_max rfl (aJ (ae 2) (jO (ae 1) (ae 0))) (aJ (ae 2) (jz (ae 1) (jO (ae 1) (ae 0)))))))
theorem nG{c P:SM}(h:W.AtC "best_shown" st_best_shown c)(lm:Lam W "best_shown" c P)(T:Tx W)(er:ej W):fR W:=Ld ["lot","cells","depths","parting"] 3 h λ_ _ _ _ _ _ hr hN=>(aq (jJ 3 (jS (Nc:=["shown","lot"]) (own:=["shown"]) (caps:=[0]) (b9 0) rfl (GP T.hw (ae 1)) rfl rfl (λ_ _ _ _ _ _=>have hN:=(by decide +kernel:List.Nodup (["shown","lot"]:Su));(bj (λ_ _ z=>z) (aZ 0 hN) (pO (λ_ _ z=>z) (vv Aa Aa Gi Gi ag (jO (ae 1) (ae 0)) (ae 1))) (ae 0)))) hN) (aB (a9 (Fw (k:=1) (Nc:=["shown","lot","depths"]) (caps:=[0,2]) (hr.mono (by decide)) T.z_min rfl lm.t rfl lm.c (ae 3) rfl rfl rfl (λ_ _ _ _ _ hr=>(aW er hr (ab (ae 0) (ab (ae 1) (ab (ae 2) ao)))))))))
theorem kN(h:W.At "least_depths" st_least_depths)(T:Tx W)(er:ej W)(gm:fR W):gJ W:=kr ["cells","many","depths","lot"] 2 h λ_ _ _ _ _ _ _ hr hN=>(aq (fY 2 (Fx (bU (ab ag ao)) (Al ag (ae 1))) hN) (aq (cQ L_ rfl (bI T.z_range (Al ag (ae 1))) (aZ 3 hN) (aB (dC (ET (jO (ae 3) (jz (ae 3) ag))) (aB (CC 2 (F3 2 (aY ag (aW er hr (ab (aW gm hr (ab (ae 3) (ab (ae 0) (ab (ae 2) ao)))) (ab (ae 3) (ab (ae 2) ao)))))) (ae 3))) bT))) (vP 2 (aB (a9 (ae 2))))))
theorem rY(h:W.At "plan_for" st_plan_for)(T:Tx W)(gm:fR W):mD W:=KD (k:=4) (m:=bB) (fb:=λi=>fX (bB i)) ["lot","cells","depths","shown","without"] 3 64 h rfl (λ_=>rfl) λi K_plan_for _ _ _ _ _ _ _ hr hN=>(aq (dC (eM hr (aJ (ae 2) (ae 0)) ag) (aB (a9 (aR (ab bH (ab (jz (GC (ae 0)) ag) ao))))) bT) (aq (a8 3 (aW gm hr (ab (ae 0) (ab (ae 1) (ab (ae 2) ao)))) hN) (aq (a8 4 (fW K_plan_for hr (ab (jz (ae 0) (jO (ae 0) (ae 3))) (ab (ae 1) (ab (ae 2) ao)))) hN) (aB (a9 (aR (ab bH (ab (Ge T.hw (ae 1) (ae 3)) (ab (ae 4) (ab (fW K_plan_for hr (ab (jO (ae 0) (ae 3)) (ab (ae 1) (ab (ae 2) ao)))) ao))))))))))
theorem nc(h:W.At "least_plan" st_least_plan)(T:Tx W)(eV:eQ W)(k_alike_pairs:iu W)(k_cells_by_lot:gU W)(k_least_depths:gJ W)(k_plan_for:mD W):jf W:=by
 obtain⟨v_MOST_PLANNED,u_MOST_PLANNED,g_MOST_PLANNED,rv_MOST_PLANNED,r_MOST_PLANNED⟩:=T.e_MOST_PLANNED;exact kr ["hidings","bodies","alike","cells","depths"] 1 h λ_ _ _ _ _ _ _ hr hN=>(aq (dC (Eu (vv zW zW FP FP ag (fq T.z_len (ae 0)) (FV g_MOST_PLANNED rv_MOST_PLANNED r_MOST_PLANNED))) (aB Cs) bT) (aq (jJ 1 (jS (Nc:=["hiding"]) (own:=["hiding"]) (caps:=[]) (b9 0) rfl (bC (ae 0)) rfl rfl (λ_ _ _ _ _ _=>have hN:=(by decide +kernel:List.Nodup (["hiding"]:Su));(bj (λ_ _ z=>z) (aZ 0 hN) bQ (aW eV hr (ab (ae 0) ao))))) hN) (aq (a8 2 (aW k_alike_pairs hr (ab (ae 1) ao)) hN) (aq (dC (Ee (ae 2)) (aB (a9 (o7 (aR (ab bH ao)) (aJ (ae 2) ag)))) bT) (aq (a8 3 (aW k_cells_by_lot hr (ab (ae 1) ao)) hN) (aq (a8 4 (aW k_least_depths hr (ab (ae 3) (ab (fq T.z_len (ae 1)) ao))) hN) (aB (a9 (aR (ab bH (ab (aJ (ae 4) (iy ag)) (ab (aW k_plan_for hr (ab (jz (fq T.z_len (ae 4)) ag) (ab (ae 3) (ab (ae 4) ao)))) ao))))))))))))
theorem pQ(h:W.At "_law_bent" st__law_bent)(T:Tx W)(gj:fL W):kE W:=KD (k:=2) (m:=aO) (fb:=λi=>cJ (aO i)) ["cell","plan","cells","way","spot","side","number"] 3 70 h rfl (λ_=>rfl) λi K__law_bent _ _ _ _ _ _ _ hr hN=>(aq (D5 rfl (cV (aW gj hr (ab (ae 0) (ab (cV (bU (ab ag (ab ag (ab ag (ab ag ao)))))) ao)))) (aA 3 hN (aA 4 hN (aA 5 hN (aA 6 hN cq))))) (aq (dC (eM hr (ae 3) ag) (aB (a9 (aR (ab bH (ab (aJ (ae 2) (bA (ae 4) (fq T.z_len (ae 2)))) (ab (ae 1) (ab (ae 1) ao))))))) bT) (aq (dC (eM hr (aJ (ae 1) ag) bH) (aB (a9 (aR (ab bH (ab (aJ (bU (ab (aY (aJ (ae 1) ag) ag) (ab (jz (aJ (ae 1) ag) ag) (ab ag (ab (mz ag ag) (ab (aJ (ae 1) ag) (ab (iy ag) ao))))))) (bA (ae 6) ag)) ao))))) bT) (aq (dC (eM hr (ae 3) ag) (aB (a9 (aR (ab bH (ab (aJ (ae 2) (bA (ae 4) (fq T.z_len (ae 2)))) (ab (aJ (ae 1) ag) (ab (aJ (ae 1) ag) ao))))))) bT) (aq (dC (eM hr (ae 3) ag) (aB (a9 (aR (ab bH (ab (aJ (ae 1) ag) (ab (aJ (ae 1) ag) (ab (aJ (ae 1) ag) ao))))))) bT) (aq (dC (eM hr (ae 3) ag) (aB (a9 (aR (ab bH (ab (aJ (bU (ab (aR (ab (iy ag) (ab ag ao))) (ab (aR (ab ag (ab ag ao))) (ab (aR (ab ag (ab (mz ag ag) ao))) ao)))) (ae 5)) (ab (aJ (ae 1) ag) (ab (aJ (ae 1) ag) ao))))))) bT) (aq (dC (eM hr (ae 5) ag) (aB (a9 (o7 (Et (ae 1) l7 (jV ag)) (aR (ab (fW K__law_bent hr (ab (aY (jT (ae 0) ag) ag) (ab (aJ (ae 1) ag) (ab (ae 2) ao)))) (ab (aJ (ae 1) ag) ao)))))) bT) (aB (a9 (o7 (Et (ae 1) l7 (jV ag)) (aR (ab (fW K__law_bent hr (ab (aY (jT (ae 0) ag) ag) (ab (aJ (ae 1) ag) (ab (ae 2) ao)))) ao))))))))))))
theorem sJ(h:W.At "_law_end" st__law_end)(T:Tx W):mL W:=kr ["plan","ground"] 2 h λ_ _ _ _ _ _ _ hr hN=>(aq (pU 70 L_ (eM hr (aJ (ae 0) ag) bH) (aB (a8 0 (aJ (ae 0) (aY ag (tH T.z_int (Ij T.hw hr (aJ (ae 0) ag) (ae 1))))) hN))) (aB (a9 (aJ (ae 0) ag))))
theorem lU(h:W.At "_law_ground" st__law_ground)(T:Tx W)(cU:dN W):iH W:=kr ["hiding","found","ship","cell"] 1 h λ_ _ _ _ _ _ _ hr hN=>(aq (Ae 1 (yD T.hw) hN) (aq (cQ L_ rfl (DR (ae 0)) (aZ 2 hN) (aB (cQ L_ rfl (bC (cV (aW cU hr (ab (ae 2) ao)))) (aZ 3 hN) (aB (AB 1 T.hw hr uv (ae 3)))))) (aB (zc 1))))
theorem pS(h:W.At "number_by" st_number_by)(T:Tx W)(eV:eQ W):kI W:=kr ["plan","hiding","lying","word","cell","without","within"] 2 h λ_ _ _ _ _ _ _ hr hN=>(aq (a8 2 (aW eV hr (ab (ae 1) ao)) hN) (aq (pU 70 L_ (eM hr (aJ (ae 0) ag) bH) (aq (AG rfl (ae 0) (aA 3 hN (aA 4 hN (aA 5 hN (aA 6 hN cq))))) (aB (a8 0 (DV (IT hr (ae 4) (ae 2)) (ae 6) (ae 5)) hN)))) (aB (a9 (aJ (ae 0) ag)))))
theorem ok_plan_holds(h:W.At "plan_holds" st_plan_holds)(T:Tx W)(k_number_by:kI W):Q_plan_holds W:=kr ["hidings","plan"] 2 h λ_ _ _ _ _ _ _ hr hN=>(aB (a9 (Jt T.z_all rfl (dX (Nc:=["at","hiding","plan"]) (own:=["at","hiding"]) (caps:=[1]) (qB [0,1]) rfl (pH T.z_enumerate (ae 0)) rfl rfl (λ_ _ _ _ _ _=>have hN:=(by decide +kernel:List.Nodup (["at","hiding","plan"]:Su));(bj (λ_ _ z=>z) (iA rfl (aA 0 hN (aA 1 hN cq))) bQ (zu hr (aW k_number_by hr (ab (ae 2) (ab (ae 1) ao))) (ae 0))))))))
theorem lJ(h:W.At "looks_among" st_looks_among)(T:Tx W):iG W:=kr ["plans"] 1 h λ_ _ _ _ _ _ _ hr hN=>(aB (a9 (cV (dX (Nc:=["plan"]) (own:=["plan"]) (caps:=[]) (b9 0) rfl (bC (ae 0)) rfl rfl (λ_ _ _ _ _ _=>have hN:=(by decide +kernel:List.Nodup (["plan"]:Su));(bj (λ_ _ z=>z) (aZ 0 hN) (pO (λ_ _ z=>z) (eM hr (aJ (ae 0) ag) bH)) (ae 0)))))))
theorem sR(h:W.At "depth_of" st_depth_of)(T:Tx W)(iQ:iG W):lC W:=kr ["plan","depth","looks"] 1 h λ_ _ _ _ _ _ _ hr hN=>(aq (a8 1 ag hN) (aq (a8 2 (aW iQ hr (ab (cV (bU (ab (ae 0) ao))) ao)) hN) (aq (pU 70 L_ (Ee (ae 2)) (aq (EZ 1 ag hN) (aB (a8 2 (aW iQ hr (ab (cV (dX (Nc:=["word","cell","parts","part"]) (own:=["word","cell","parts","part"]) (caps:=[]) (GO 0 1 2) rfl (bC (ae 2)) rfl rfl (λ_ _ _ _ _ _=>have hN:=(by decide +kernel:List.Nodup (["word","cell","parts","part"]:Su));(lS (λ_ _ z=>z) rfl (CT 0 1 2 rfl hN) bQ (bC (ae 2)) (b9 3) (bj (λ_ _ z=>z) (aZ 3 hN) bQ (ae 3)))))) ao)) hN)))) (aB (a9 (ae 1))))))
theorem nt(h:W.At "_law_depth" st__law_depth)(T:Tx W):jy W:=KD (k:=0) (m:=bE) (fb:=λi=>jE (bE i)) ["plan"] 1 70 h rfl (λ_=>rfl) λi K__law_depth _ _ _ _ _ _ _ hr hN=>(aB (a9 (DV (eM hr (aJ (ae 0) ag) bH) ag (aY ag (vk T.z_max rfl (fW K__law_depth hr (ab (aJ (ae 0) ag) ao)) (fW K__law_depth hr (ab (aJ (ae 0) ag) ao)))))))
theorem FL{f:SM}{fd:SJ}(F:A2 W.K "law" "law" st_law f fd)(T:Tx W)(k__law_played:iI W)(k__law_some_hidings:dG W)(k__law_sheet_cells:d8 W)(k__law_drawn_plan:et W)(k_least_plan:jf W)(k__law_bent:kE W)(k__law_end:mL W)(k__law_ground:iH W)(k_plan_holds:Q_plan_holds W)(m6:lC W)(k__law_depth:jy W):ir W.P W.w W.K W.mg W.base sH 73 f fd ["script"] (Be W.K 1 .cl m_law):=Od ["script","cell","sheet","fleet","rule","rows","picked","cells","plans","told","plan","ends","found"] 1 F λ_ _ _ _ _ _ _ hr hN=>(aq (cQ L_ rfl (bC (cV (lE (bU (ab ag ao)) (Ec (ae 0) l7 (jV ag))))) (aZ 1 hN) (aq (AG rfl (aW k__law_played hr (ab (ae 1) ao)) (aA 2 hN (aA 3 hN (aA 4 hN (aA 5 hN cq))))) (aq (a8 6 (aW k__law_some_hidings hr (ab (ae 1) (ab (ae 5) (ab ag ao)))) hN) (aq (a8 7 (cV (aW k__law_sheet_cells hr (ab (ae 2) ao))) hN) (aq (fY 8 (bU (ab (aW k__law_drawn_plan hr (ab (bA (ae 1) (mz ag ag)) (ab (ae 7) (ab (fq T.z_len (ae 6)) (ab ag ao))))) ao)) hN) (aq (a8 9 (aW k_least_plan hr (ab (ae 6) ao)) hN) (aq (dC (eM hr (aJ (ae 9) ag) bH) (aq (mm 8 (aJ (ae 9) ag)) (aB (fY 8 (lE (LW 8) (dX (Nc:=["k","cell","told","cells"]) (own:=["k"]) (caps:=[1,9,7]) (b9 0) rfl (bI T.z_range ag) rfl rfl (λ_ _ _ _ _ _=>have hN:=(by decide +kernel:List.Nodup (["k","cell","told","cells"]:Su));(bj (λ_ _ z=>z) (aZ 0 hN) bQ (aW k__law_bent hr (ab (aY (ae 1) (ae 0)) (ab (aJ (ae 2) ag) (ab (ae 3) ao)))))))) hN))) bT) (vP 8 (aB (cQ L_ rfl (bC (ae 8)) (aZ 10 hN) (aq (jJ 11 (jS (Nc:=["hiding","plan"]) (own:=["hiding"]) (caps:=[10]) (b9 0) rfl (bC (ae 6)) rfl rfl (λ_ _ _ _ _ _=>have hN:=(by decide +kernel:List.Nodup (["hiding","plan"]:Su));(bj (λ_ _ z=>z) (aZ 0 hN) bQ (aW k__law_end hr (ab (ae 1) (ab (DW (aW k__law_ground hr (ab (ae 0) ao))) ao)))))) hN) (aq (a8 12 (aW k_plan_holds hr (ab (cV (EM T.z_list (ae 6))) (ab (ae 10) ao))) hN) (aq (dC (Hv (w_or (Eu (vd (DU .bool T.z_isinstance T.z_bool (ae 12)))) (vp (Fj hr (ae 12) (zu hr (ae 11) (Jk rfl T.z_list T.z_range (fq T.z_len (ae 6)))))))) (aB (a9 uv)) bT) (aB (dC (Hv (w_or (Fj hr (aW m6 hr (ab (ae 10) ao)) (aW k__law_depth hr (ab (ae 10) ao))) (vp (vd (DU .bool T.z_isinstance T.z_bool (aW m6 hr (ab (ae 10) ao))))))) (aB (a9 uv)) bT))))))))))))))) (aB (a9 uv)))
end
end K30
namespace K30
open PySem PySem.Spec PyProof.Rows L2 Mi
open PySem.W (nsIn findIn keepIn codeIn mg_of mg_none_of)
theorem all_mk{l:PySem.W.OpenLaw}{w:SI}{K:SB}{h:SH}{mg:Sm}{fa:SM}(X:K.In h)(G:h.Ns mainGlobals mg)(hfa:mg "law"=some (.ref fa))
  {f0 f1 f2 f3 f4 f5 f6 f7 f8 f9 f10 f11 f12 f13 f14 f15 f16 f17 f18 f19 f20 f21 f22 f23 f24 f25 f26 f27 f28 f29 f30:SM}
  (h0:gg K "_law_stir" st__law_stir f0)
  (h1:gg K "_law_drawn" st__law_drawn f1)
  (h2:gg K "_law_game" st__law_game f2)
  (h3:gg K "_law_ships" st__law_ships f3)
  (h4:gg K "_law_cells" st__law_cells f4)
  (h5:gg K "_law_halo" st__law_halo f5)
  (h6:gg K "_law_free" st__law_free f6)
  (h7:gg K "_law_all" st__law_all f7)
  (h8:gg K "_law_played" st__law_played f8)
  (h9:gg K "_law_order" st__law_order f9)
  (MV:gg K "_law_some_hidings" st__law_some_hidings f10)
  (MW:gg K "_law_sheet_cells" st__law_sheet_cells f11)
  (MX:gg K "_law_drawn_plan" st__law_drawn_plan f12)
  (MY:gg K "cells_of" st_cells_of f13)
  (MZ:gg K "lying_cells" st_lying_cells f14)
  (M0:gg K "alike_pairs" st_alike_pairs f15)
  (M3:gg K "cells_by_lot" st_cells_by_lot f16)
  (M4:gg K "depth_behind" st_depth_behind f17)
  (N4:gg K "best_shown" st_best_shown f18)
  (M5:gg K "least_depths" st_least_depths f19)
  (M6:gg K "plan_for" st_plan_for f20)
  (M7:gg K "least_plan" st_least_plan f21)
  (M8:gg K "_law_bent" st__law_bent f22)
  (M9:gg K "_law_end" st__law_end f23)
  (M':gg K "_law_ground" st__law_ground f24)
  (Na:gg K "number_by" st_number_by f25)
  (Nb:gg K "plan_holds" st_plan_holds f26)
  (Nd:gg K "looks_among" st_looks_among f27)
  (Ng:gg K "depth_of" st_depth_of f28)
  (Nh:gg K "_law_depth" st__law_depth f29)
  (Ni:gg K "law" st_law f30)
  (z_all:nsIn K mainGlobals "all"=some none)
  (z_bool:nsIn K mainGlobals "bool"=some none)
  (z_enumerate:nsIn K mainGlobals "enumerate"=some none)
  (z_int:nsIn K mainGlobals "int"=some none)
  (z_isinstance:nsIn K mainGlobals "isinstance"=some none)
  (z_len:nsIn K mainGlobals "len"=some none)
  (z_list:nsIn K mainGlobals "list"=some none)
  (z_max:nsIn K mainGlobals "max"=some none)
  (z_min:nsIn K mainGlobals "min"=some none)
  (z_range:nsIn K mainGlobals "range"=some none)
  (z_sorted:nsIn K mainGlobals "sorted"=some none)
  (z_sum:nsIn K mainGlobals "sum"=some none)
  (z_tuple:nsIn K mainGlobals "tuple"=some none)
  {Ks Kt:SM} (DL:PySem.W.tabIn K "best_shown"=some (Ks,Kt)) (Hr:PySem.W.codeHdIn K Ks Kt=true)
  (Hu:PySem.W.tabIn K "best_in"=none)
  {t_MOST_PLANNED:Tok} (a_MOST_PLANNED:nsIn K mainGlobals "MOST_PLANNED"=some (some (.int 10 t_MOST_PLANNED)))
  : ∃fd:SJ,(∀(s:SE)(v:SC),BindsTo s fd ⟨[v],[]⟩ [("script",v)])/\∀base:SH,K.In base->base.Ns mainGlobals mg->ir l.prog w K mg base sH 73 fa fd ["script"] (Be K 1 .cl (@m_law ⟨hashStr w⟩)):=by
 letI:Th:=⟨hashStr w⟩;obtain⟨oc,kV,dc,pm,cd,ct,od,an,sl,aL,lL,cL,kL⟩:=Ni;have e:=hfa.symm.trans (mg_of X G aL);cases e;refine⟨PySem.W.fnOf "law" "law" (eF st_law) (bV st_law) (aM st_law) .none kV dc pm an cd ct,λs v=>.of_eq rfl,λbase _ _=>?_⟩
 let W:Wd:=⟨l.prog,w,K,mg,base⟩
 have a {x st f} (A:gg K x st f):W.At x st:=A.at X G;have T:Tx W:=⟨Pu X G z_all,Pu X G z_bool,Pu X G z_enumerate,Pu X G z_int,Pu X G z_isinstance,Pu X G z_len,Pu X G z_list,Pu X G z_max,Pu X G z_min,Pu X G z_range,Pu X G z_sorted,Pu X G z_sum,Pu X G z_tuple,⟨(.int 10),_,mg_of X G a_MOST_PLANNED,⟨_,rfl⟩,λ_=>rfl⟩,rfl⟩;have C0:=qf (a h0) T;have C1:=m9 (a h1) T C0;have C2:=pz (a h2) T C1;have C3:=nj (a h3) T;have C4:=ng (a h4) T;have C5:=qt (a h5) T C4;have C6:=pI (a h6) T;have C7:=sG (a h7) T C3 C5 C4 C6;have C8:=lA (a h8) T C2 C7;have C9:=nz (a h9) T C0;have C10:=gT (a MV) T C0 C9;have C11:=ij (a MW) T;have C12:=iU (a MX) T C0;have C13:=qM (a MY) T;have C14:=me (a MZ) T C13;have C15:=mr (a M0) T;have C16:=kP (a M3) T;have C17:=kM (a M4) T;have C18:=nG (W:=W) (N4.atC X G DL) ⟨N7 Hu DL,Hr⟩ T C17;have C19:=kN (a M5) T C17 C18;have C20:=rY (a M6) T C18;have C21:=nc (a M7) T C14 C15 C16 C19 C20;have C22:=pQ (a M8) T C1;have C23:=sJ (a M9) T;have C24:=lU (a M') T C4;have C25:=pS (a Na) T C14;have C26:=ok_plan_holds (a Nb) T C25;have C27:=lJ (a Nd) T;have C28:=sR (a Ng) T C27;have C29:=nt (a Nh) T;exact FL (W:=W) (zF (st:=st_law) lL cL kL) T C8 C10 C11 C12 C21 C22 C23 C24 C26 C28 C29
theorem yH{l:PySem.W.OpenLaw}{q:SF}{loose:Su}{XP:Sm->SH->Prop}{YP:SI->SH->Prop}{d:DefRec}{K:Params->SB}(hn:l.most=some 63)(J5:d.params.defaults=[])
  (hY:∀(w:SI)(h:SH),YP w h->(K w.params).In h) (hL:∀(w:SI)(h:SH),YP w h->∀P qq,tq (K w.params) P=some qq->(∃c,PySem.W.CodeHd h c P)/\h.get? P=some (PySem.W.tabObj #[])/\(K w.params).lookup P=none)
  (F:∀(w:SI)(mg:Sm)(fa:SM)(h:SH),(K w.params).In h->h.Ns mainGlobals mg->mg d.name=some (.ref fa)->
   ∃fd:SJ,(∀(s:SE)(u:SC),BindsTo s fd ⟨[u],[]⟩ [("script",u)])/\∀base:SH,(K w.params).In base->base.Ns mainGlobals mg->ir l.prog w (K w.params) mg base sH 73 fa fd ["script"] (Be (K w.params) 1 .cl (@m_law ⟨hashStr w⟩))) :
  PySem.W.WalkO q loose XP YP l.row.toRowW d [] (λf vs=>PySem.call f vs):=
 L2.zO (n:=63) (k:=73) (x:="script") (CX:=λ_=>sH) (sp:=λw=>Be (K w.params) 1 .cl (@m_law ⟨hashStr w⟩)) hn (by decide) J5 ⟨rfl,by decide,by decide⟩ hY hL F
  (λw H a ns hl _ hS=>⟨H,[.lst (ns.map .int)],.bl true,rfl,λ_ _ z=>z,⟨_,_,rfl,⟨a,_,rfl,hS,ar.ints ns⟩,rfl⟩,@law_true ⟨hashStr w⟩ ns hl,λv Z' H' _ g=>g⟩) λ_ _ _ _ _ z=>z
end K30
namespace PySem.W.Fast
theorem tw18283840413757938646:True:=⟨⟩
theorem tw13666906889731174787:True:=⟨⟩
theorem tw9960410530453357365:True:=⟨⟩
theorem tw8458522671917657663:True:=⟨⟩
theorem tw13003425477634960811:True:=⟨⟩
theorem tw5875601548704206114:True:=⟨⟩
theorem tw6232489902935492852:True:=⟨⟩
theorem tw4205859084928127209:True:=⟨⟩
theorem tw3413175856901145611:True:=⟨⟩
theorem tw15271958306216550421:True:=⟨⟩
theorem tw3490734502449873946:True:=⟨⟩
theorem tw513538462114558695:True:=⟨⟩
theorem tw5651155132204632610:True:=⟨⟩
theorem tw1309004542449647479:True:=⟨⟩
theorem tw4924875005592965160:True:=⟨⟩
theorem tw15957558412592676252:True:=⟨⟩
theorem tw6492206570720132097:True:=⟨⟩
theorem tw356512980735058180:True:=⟨⟩
theorem tw11396406971913577018:True:=⟨⟩
theorem tw230888326987259427:True:=⟨⟩
theorem tw12959385252812371480:True:=⟨⟩
theorem tw15932531068331375662:True:=⟨⟩
theorem tw14813804330371109390:True:=⟨⟩
theorem tw2820391633794161762:True:=⟨⟩
theorem tw2120030638750645206:True:=⟨⟩
theorem tw4004051288892649742:True:=⟨⟩
theorem tw8039870424599984422:True:=⟨⟩
theorem tw14977412213635194320:True:=⟨⟩
theorem tw1228786272479803021:True:=⟨⟩
theorem tw5029927791033913593:True:=⟨⟩
theorem tw17787804899269181877:True:=⟨⟩
theorem tw15356833074504192441:True:=⟨⟩
theorem tw1574321172100960358:True:=⟨⟩
theorem tw14834848696123743381:True:=⟨⟩
theorem tw11990029414817896111:True:=⟨⟩
theorem tw3885904725149817362:True:=⟨⟩
theorem tw16641188182800075102:True:=⟨⟩
theorem tw3313608720903312548:True:=⟨⟩
theorem tw10671705776368437179:True:=⟨⟩
theorem tw4150767780638164263:True:=⟨⟩
theorem tw15309520202365872270:True:=⟨⟩
theorem tw1720280456704624732:True:=⟨⟩
theorem tw14463318441470872458:True:=⟨⟩
theorem tw146956251858793087:True:=⟨⟩
theorem tw18109207619682266062:True:=⟨⟩
theorem tw15218176942620252275:True:=⟨⟩
theorem tw8603169489816630563:True:=⟨⟩
theorem tw6586699220187006016:True:=⟨⟩
theorem tw396498013985856325:True:=⟨⟩
theorem tw12427057408550074837:True:=⟨⟩
theorem tw13323040889100450716:True:=⟨⟩
theorem tw13152930031670465746:True:=⟨⟩
theorem tw10299425128411969153:True:=⟨⟩
theorem tw14697405355859798380:True:=⟨⟩
theorem tw14839958934778000260:True:=⟨⟩
theorem tw17584178628158046889:True:=⟨⟩
theorem tw11333168657565951833:True:=⟨⟩
theorem tw9510177404261148757:True:=⟨⟩
theorem tw3732580079370109943:True:=⟨⟩
theorem tw9431686484223268501:True:=⟨⟩
theorem tw11616575797281801961:True:=⟨⟩
theorem tw12566157027223510433:True:=⟨⟩
theorem tw3466290055034067836:True:=⟨⟩
theorem tw8911994805072610113:True:=⟨⟩
theorem tw14044799813628946945:True:=⟨⟩
theorem tw9132614654238300213:True:=⟨⟩
theorem tw425016569782237823:True:=⟨⟩
theorem tw442105634695676126:True:=⟨⟩
theorem tw2353017252243739242:True:=⟨⟩
theorem tw7769946203489219194:True:=⟨⟩
theorem tw9594235618569194415:True:=⟨⟩
theorem tw7394452910040949301:True:=⟨⟩
theorem tw16166659962841913350:True:=⟨⟩
theorem tw15016551826554525590:True:=⟨⟩
theorem tw15933193861927921553:True:=⟨⟩
theorem tw1674091544658284898:True:=⟨⟩
theorem tw10956109387844928092:True:=⟨⟩
theorem tw1091563281908959107:True:=⟨⟩
theorem tw3776155782401636812:True:=⟨⟩
theorem tw8986980207494402410:True:=⟨⟩
theorem tw17376161039682124024:True:=⟨⟩
theorem tw9761869703534401316:True:=⟨⟩
theorem tw14122607346754618405:True:=⟨⟩
theorem tw12758667495901847834:True:=⟨⟩
theorem tw2373451596292114676:True:=⟨⟩
theorem tw7018887057782222491:True:=⟨⟩
theorem tw17524119703260139633:True:=⟨⟩
theorem tw3682768337872306685:True:=⟨⟩
theorem tw16928907820946650936:True:=⟨⟩
theorem tw10390532094058282959:True:=⟨⟩
theorem tw14359235899688859343:True:=⟨⟩
theorem tw1938602641686887531:True:=⟨⟩
theorem tw4507222049501307826:True:=⟨⟩
theorem tw13358604391832974144:True:=⟨⟩
theorem tw6411063398443036705:True:=⟨⟩
theorem tw13321716750432315279:True:=⟨⟩
theorem tw10310323361754828211:True:=⟨⟩
theorem tw17394705411925094736:True:=⟨⟩
theorem tw15858370180447054188:True:=⟨⟩
theorem tw11195729851414311421:True:=⟨⟩
theorem tw12814362106198088113:True:=⟨⟩
theorem tw10411980869930389375:True:=⟨⟩
theorem tw3559773473652943497:True:=⟨⟩
theorem tw1566811548767875330:True:=⟨⟩
theorem tw13324148641981799493:True:=⟨⟩
theorem tw13765921078751431217:True:=⟨⟩
theorem tw15756375031227505850:True:=⟨⟩
theorem tw12137456312652867256:True:=⟨⟩
theorem tw18225575412261347178:True:=⟨⟩
theorem tw16021537891278001732:True:=⟨⟩
theorem tw7049267046987424160:True:=⟨⟩
theorem tw7232557654608153328:True:=⟨⟩
theorem tw1402068586023508387:True:=⟨⟩
theorem tw983624147896895829:True:=⟨⟩
theorem tw11474832880280462896:True:=⟨⟩
theorem tw3042234031151722804:True:=⟨⟩
theorem tw16700600727962228770:True:=⟨⟩
theorem tw14234364804975952348:True:=⟨⟩
theorem tw5968441429045494619:True:=⟨⟩
theorem tw6720900056793197019:True:=⟨⟩
theorem tw1203006310537437106:True:=⟨⟩
theorem tw1874520000922286326:True:=⟨⟩
theorem tw7191216081215900963:True:=⟨⟩
theorem tw14735036528672099216:True:=⟨⟩
theorem tw10027335921573532756:True:=⟨⟩
theorem tw1917108243480980674:True:=⟨⟩
theorem tw3636775073958750981:True:=⟨⟩
theorem tw13785379522540324947:True:=⟨⟩
theorem tw2438799192938644900:True:=⟨⟩
theorem tw16805059127249176510:True:=⟨⟩
theorem tw10085494946194463862:True:=⟨⟩
theorem tw1248588556476607266:True:=⟨⟩
theorem tw2780497888340389381:True:=⟨⟩
theorem tw17138807861665913482:True:=⟨⟩
theorem tw12943058402303480945:True:=⟨⟩
theorem tw14000415787075917478:True:=⟨⟩
theorem tw3598404900212369918:True:=⟨⟩
theorem tw4238757493594649732:True:=⟨⟩
theorem tw7581162385246957268:True:=⟨⟩
theorem tw13463947256487552020:True:=⟨⟩
theorem tw4285748880046630339:True:=⟨⟩
theorem tw11770414883791801504:True:=⟨⟩
theorem tw13483379097322320907:True:=⟨⟩
theorem tw3788404209918300885:True:=⟨⟩
theorem tw18213244011758439032:True:=⟨⟩
theorem tw1288771544963935322:True:=⟨⟩
theorem tw9725942281673146601:True:=⟨⟩
theorem tw488186886915879532:True:=⟨⟩
theorem tw4604640650384892237:True:=⟨⟩
theorem tw1136372726431478843:True:=⟨⟩
theorem tw14339527232469762441:True:=⟨⟩
theorem tw5931352222642074302:True:=⟨⟩
theorem tw6351311334693403026:True:=⟨⟩
theorem tw4916285772582774861:True:=⟨⟩
theorem tw10972957957270049861:True:=⟨⟩
theorem tw6080464421351993168:True:=⟨⟩
theorem tw11855349154592992822:True:=⟨⟩
theorem tw16224893620016244421:True:=⟨⟩
theorem tw11719932355746040699:True:=⟨⟩
theorem tw17643914453024120849:True:=⟨⟩
theorem tw17792629927728645976:True:=⟨⟩
theorem tw5890517857939550225:True:=⟨⟩
theorem tw10186851156829946579:True:=⟨⟩
theorem tw8014592058915227831:True:=⟨⟩
theorem tw14073523755699600854:True:=⟨⟩
theorem tw5897973880251597186:True:=⟨⟩
theorem tw17435678059791629379:True:=⟨⟩
theorem tw8759403659557385575:True:=⟨⟩
theorem tw12829986544226718770:True:=⟨⟩
theorem tw11684871397023363998:True:=⟨⟩
theorem tw15467441853826103565:True:=⟨⟩
theorem tw14008729108460461884:True:=⟨⟩
theorem tw17636882714157203409:True:=⟨⟩
theorem tw16512944458750944598:True:=⟨⟩
theorem tw3468267203171622737:True:=⟨⟩
theorem tw17286522328880963729:True:=⟨⟩
theorem tw8283168901685114056:True:=⟨⟩
theorem tw5169113003493161817:True:=⟨⟩
theorem tw10039569975199052619:True:=⟨⟩
theorem tw17774863347753851247:True:=⟨⟩
theorem tw10063808737380622637:True:=⟨⟩
theorem tw803968906734503791:True:=⟨⟩
theorem tw487597905348224848:True:=⟨⟩
theorem tw14062676571351595310:True:=⟨⟩
theorem tw9651077998466047658:True:=⟨⟩
theorem tw8118070729489067016:True:=⟨⟩
theorem tw8327250473581187758:True:=⟨⟩
theorem tw3906085970481275184:True:=⟨⟩
theorem tw3969784234572041493:True:=⟨⟩
theorem tw2114334998784283763:True:=⟨⟩
theorem tw11477554549063071411:True:=⟨⟩
theorem tw2428983906875785400:True:=⟨⟩
theorem tw2971992830360777757:True:=⟨⟩
theorem tw2476692067394820779:True:=⟨⟩
theorem tw4929460865052721707:True:=⟨⟩
theorem tw18245048880077361926:True:=⟨⟩
theorem tw3809783212840233731:True:=⟨⟩
theorem tw9593314456020107445:True:=⟨⟩
theorem tw1411563580493542750:True:=⟨⟩
theorem tw8334486115566550217:True:=⟨⟩
theorem tw11960859643556271508:True:=⟨⟩
theorem tw5205491564982932272:True:=⟨⟩
theorem tw18139530830072680579:True:=⟨⟩
theorem tw7499175335919820619:True:=⟨⟩
theorem tw7586550164526080654:True:=⟨⟩
theorem tw1593595611775813827:True:=⟨⟩
theorem tw16462316777810050627:True:=⟨⟩
theorem tw5154629797006527099:True:=⟨⟩
theorem tw5585332320694180624:True:=⟨⟩
theorem tw6049360988117876202:True:=⟨⟩
theorem tw10421370858461470388:True:=⟨⟩
theorem tw3966340664520087130:True:=⟨⟩
theorem tw9766137234523374879:True:=⟨⟩
theorem tw13672682178005792752:True:=⟨⟩
theorem tw10202029855352294813:True:=⟨⟩
theorem tw12515891788367505603:True:=⟨⟩
theorem tw8499503002758414405:True:=⟨⟩
theorem tw17203630362115087736:True:=⟨⟩
theorem tw11923312636875395506:True:=⟨⟩
end PySem.W.Fast
open PySem PySem.W PyProof.Rows
local macro_rules | `(tactic| walk_at "tb") => `(tactic| (refine' Mi.Gk ?a ?b ?c ?d ?e; (case a => k_is); (case b => k_is); (case c => rfl); (case d => k_is); (case e => rfl)))
local macro_rules | `(tactic| walk_at "at") => `(tactic| (refine' Mi.Ig ?a ?l ?c ?k; (case a => k_is); (case l => k_is); (case c => k_is); (case k => k_is)))
set_option maxRecDepth 100000 in
set_option maxHeartbeats 0 in
theorem PySem.Challenge.cw_fleethide_k30_plans_judged_holds : PySem.Challenge.rw_fleethide_k30_plans_judged.Holds := by
  w_on
  o_law
  k_head
  (case hw=>w_witness2)
  k_fill
  refine K30.yH (l:=PySem.Challenge.rw_fleethide_k30_plans_judged) rfl rfl (fun w h Y=>PySem.W.km_in_of Y) ?L ?F
  case L=>
    intro w h Y
    refine' L2.II (PySem.W.km_in_of Y) ?a ?b ?c ?d ?e
    (case a=>(exact Mi.yX (by k_is)))
    (case b=>walk_at "tb")
    (case c=>kernel_rfl)
    (case d=>kernel_rfl)
    (case e=>exact PySem.W.km_tabs_of Y _ (.head _))
  case F=>
    intro w mg fa h KX G hmg
    refine' K30.all_mk KX G hmg ?h0 ?h1 ?h2 ?h3 ?h4 ?h5 ?h6 ?h7 ?h8 ?h9 ?MV ?MW ?MX ?MY ?MZ ?M0 ?M3 ?M4 ?N4 ?M5 ?M6 ?M7 ?M8 ?M9 ?M' ?Na ?Nb ?Nd ?Ng ?Nh ?Ni ?z_all ?z_bool ?z_enumerate ?z_int ?z_isinstance ?z_len ?z_list ?z_max ?z_min ?z_range ?z_sorted ?z_sum ?z_tuple ?DL ?Hr ?Hu ?ga_MOST_PLANNED
    (case h0=>walk_at "at")
    (case h1=>walk_at "at")
    (case h2=>walk_at "at")
    (case h3=>walk_at "at")
    (case h4=>walk_at "at")
    (case h5=>walk_at "at")
    (case h6=>walk_at "at")
    (case h7=>walk_at "at")
    (case h8=>walk_at "at")
    (case h9=>walk_at "at")
    (case MV=>walk_at "at")
    (case MW=>walk_at "at")
    (case MX=>walk_at "at")
    (case MY=>walk_at "at")
    (case MZ=>walk_at "at")
    (case M0=>walk_at "at")
    (case M3=>walk_at "at")
    (case M4=>walk_at "at")
    (case N4=>walk_at "at")
    (case M5=>walk_at "at")
    (case M6=>walk_at "at")
    (case M7=>walk_at "at")
    (case M8=>walk_at "at")
    (case M9=>walk_at "at")
    (case M'=>walk_at "at")
    (case Na=>walk_at "at")
    (case Nb=>walk_at "at")
    (case Nd=>walk_at "at")
    (case Ng=>walk_at "at")
    (case Nh=>walk_at "at")
    (case Ni=>walk_at "at")
    (case z_all=>k_is)
    (case z_bool=>k_is)
    (case z_enumerate=>k_is)
    (case z_int=>k_is)
    (case z_isinstance=>k_is)
    (case z_len=>k_is)
    (case z_list=>k_is)
    (case z_max=>k_is)
    (case z_min=>k_is)
    (case z_range=>k_is)
    (case z_sorted=>k_is)
    (case z_sum=>k_is)
    (case z_tuple=>k_is)
    (case DL=>walk_at "tb")
    (case Hr=>kernel_rfl)
    (case Hu=>(exact Mi.yX (by k_is)))
    (case ga_MOST_PLANNED=>k_is)
