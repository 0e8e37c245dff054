
import PyProof.Rows.All
import Wide.All
import OpenK.AllK
import Wide.FinOn
import Lean
import PyProof.EqAt
import PyProof.EqKinds
import PyProof.TupleCall
import PyProof.SetScanFacts
import PyProof.SetRoads
import PyProof.SetNew
import PyProof.TupleKey
import PyProof.DictFindH
import PyProof.Rows.SetFrom
import KE.KDictOf
import PyProof.AttrMissHeap
import PyProof.MeetsDictList
import PyProof.FString5
import KE.KUnpackStar
import PyProof.DictItems
import PyProof.SumWalkG
import KE.KLam
import KE.KMinKey
import KE.KDictList
import KE.KDictLaws
import KE.KDictSum
import PyProof.TupleOfStr
import PyProof.ListRange
import PyProof.DictUpdate
import PySem.Challenge.RW_fleethide_k25_whole_none_has_fewer_cells
set_option Elab.async false
set_option linter.all false
set_option maxRecDepth 100000
set_option maxHeartbeats 4000000
abbrev VH:=PySem.Value->PySem.Shared->Prop
abbrev VI:=List (PySem.Addr×PySem.Obj)
abbrev VJ:=Array (Option PySem.Value)
abbrev VL:=PySem.Str->Option PySem.Value
abbrev VM:=List (PySem.Str×PySem.Addr)
abbrev VN:=List (Int×Int)
abbrev VO:=List PySem.Comprehension
abbrev VP:=List PySem.Value
abbrev VQ:=Option PySem.Value
abbrev VR:=Option PySem.Addr
abbrev VS:=List PySem.Str
abbrev VT:=List PySem.Addr
abbrev VU:=List PySem.Expr
abbrev VV:=List PySem.Stmt
abbrev VW:=List Nat
abbrev VX:=List Int
abbrev VY:=Int×Int
abbrev VZ:=PySem.W.Frag
abbrev V0:=PySem.Value
abbrev V1:=PySem.Shared
abbrev V2:=PySem.Program
abbrev V3:=PySem.Around
abbrev V4:=PySem.Heap
abbrev V5:=PySem.World
abbrev V6:=PySem.FuncData
abbrev V7:=PySem.Scope
abbrev V8:=PySem.Addr
abbrev V9:=PySem.Expr
abbrev V_:=PySem.Stmt
def a_:=@Option.bind_eq_some_iff
def b_:=@PySem.wpAny_bind
def c_:=@List.length_map
def d_:=@List.mem_cons_of_mem
def e_:=@PySem.Heap.get?_push_of_some
def f_:=@List.mem_cons_self
def g_:=@PySem.wpAny_pure
def h_:=@List.length_append
def i_:=@if_pos
def j_:=@if_neg
def k_:=@List.mem_singleton
def l_:=@Nat.le_refl
def m_:=@List.length_cons
def n_:=@List.getElem?_set_ne
def o_:=@List.mem_cons
def p_:=@PySem.Heap.get?_push_size
def q_:=@List.getElem?_append_right
def r_:=@PySem.Heap.lt_size
def s_:=@List.getElem?_eq_some_iff
def t_:=@List.size_toArray
def u_:=@List.getElem?_map
def v_:=@List.getElem?_eq_getElem
def w_:=@Nat.ne_of_lt
def x_:=@decide_eq_true
def y_:=@List.mem_append_right
def z_:=@Option.bind_some
def A_:=@List.getElem?_set_self
def B_:=@List.map_cons
def C_:=@Bool.and_eq_true
def D_:=@List.getElem?_append_left
def E_:=@List.mem_map
def F_:=@List.mem_of_getElem?
def G_:=@List.append_nil
def H_:=@of_decide_eq_true
def I_:=@List.nodup_cons
def J_:=@Bool.false_eq_true
def K_:=@Option.map_eq_some_iff
def L_:=@PySem.wpAny_holding
def M_:=@Nat.le_trans
def N_:=@Nat.lt_of_lt_of_le
def O_:=@List.mem_append
def P_:=@List.all_eq_true
def Q_:=@List.map_map
def R_:=@decide_eq_false
def Sf:=@Bool.false_ne_true
def Sg:=@List.map_append
def Si:=@List.length_singleton
def Sj:=@List.length_filter_le
def Sk:=@decide_eq_true_eq
def Sl:=@PySem.mem_of_lookup
def Sm:=@PySem.PassesOwn.never
def Sn:=@List.getElem?_replicate
def So:=@List.getElem?_eq_none
def Sq:=@List.getD_eq_getElem?_getD
def Sr:=@PySem.sizeLine_eq
def Ss:=@Nat.le_of_not_lt
def Su:=@List.append_assoc
def Sv:=@List.zip_cons_cons
def Sw:=@List.cons_append
def Sx:=@PySem.wpAny_mono
def Sy:=@List.length_replicate
def Sz:=@List.lookup_cons
def SA:=@if_false
def SB:=@PySem.W.kia_one
def SC:=@Array.length_toList
def SE:=@PySem.Heap.SameBut.update
def SF:=@Nat.le_of_ble_eq_true
def SG:=@PySem.wpAny_truthy_bool
def SH:=@PySem.wpAny_newObj_type
def SI:=@PySem.wpAny_standAt
def SJ:=@Bool.eq_iff_iff
def SL:=@PySem.wpAny_call_entry
def SM:=@List.filter_cons
def SN:=@PySem.F.plain_max_loop
def SO:=@Nat.lt_succ_of_lt
def SQ:=@List.mem_range
def SR:=@Ne.symm
def SS:=@List.mem_filter
def SU:=@List.length_nil
def SV:=@List.nil_append
def SX:=@PySem.F.slot_dict_keyiterator_next
def SY:=@PySem.F.plainAttrs_list
def SZ:=@PySem.wpAny_callSpecial?_slot
def S0:=@congrArg
def S1:=@List.nodup_append
def S3:=@List.flatMap_cons
def S4:=@PySem.W.mg_none_of
def S5:=@List.nodup_nil
def S6:=@PySem.wpAny_typeNameOfWhole_keyiter
def S7:=@Int.toNat_natCast
def S8:=@PySem.codeAny_builtin
def S9:=@PySem.F.slot_set_contains
def S_:=@beq_eq_false_iff_ne
def Ta:=@PyProof.Rows.F.plain_set_update_loop
def Tb:=@PyProof.Rows.callWith_type1
def Tc:=@List.take_of_length_le
def Td:=@List.not_mem_nil
def Te:=@List.any_eq_true
def Tf:=@Int.emod_lt_of_pos
def Tg:=@PySem.wpAny_tryCatch
def Ti:=@PySem.Heap.size_push
def Tj:=@PySem.F.slot_tuple_iterator_next
def Tn:=@PySem.wpAny_setField_rec
def To:=@Array.getElem?_eq_getElem
def Tp:=@List.getElem?_zip_eq_some
def Tq:=@List.drop_eq_getElem_cons
def Tr:=@List.foldl_cons
def Ts:=@Nat.zero_le
def Tt:=@Nat.zero_add
def Tu:=@PySem.wpAny_setState_of
def Tv:=@PySem.wpAny_pyIter_list
def Tz:=@PySem.Around.under_plainId
def TC:=@PySem.wpAny_field
def TF:=@PySem.wpAny_comprehension_free
def TH:=@PySem.AutoSeq1.wpAny_loadPart'
def TJ:=@PySem.wpAny_typeNameOf_keyiter
def TK:=@if_true
def TM:=@PySem.wpAny_seqItems
def TN:=@Nat.add_sub_cancel_left
def TQ:=@List.mem_flatMap
def TR:=@Nat.mul_le_mul
def TU:=@Nat.pow_succ
def TV:=@List.map_nil
def TX:=@Nat.le_of_lt
def TY:=@PySem.wpAny_pyIter_tuple
def TZ:=@beq_iff_eq
def T1:=@PySem.wpAny_Call_Name_kw
def T2:=@PySem.F.called_set
def T3:=@PySem.tupleKind_room_in1
def T4:=@List.filter_eq_nil_iff
def T5:=@Int.emod_nonneg
def T6:=@PySem.wpAny_specialOf
def T7:=@Nat.lt_irrefl
def T8:=@List.mem_iff_getElem?
def T9:=@List.take_append_drop
def T_:=@PySem.F.slot_enumerate_next
def Ua:=@PySem.W.kitx_dict
def Ub:=@List.length_range
def Uc:=@Array.getElem?_eq_some_iff
def Ud:=@List.mem_append_left
def Ue:=@PySem.wpAny_newFunctionEnv
def Ug:=@Nat.mod_eq_of_lt
def Uh:=@List.getElem_mem
def Ui:=@Nat.lt_succ_self
def Uj:=@PySem.codeAny_mono
def Uk:=@List.length_take
def Ul:=@List.length_drop
def Um:=@List.pairwise_iff_getElem
def Uo:=@List.mem_map_of_mem
def Up:=@PyProof.Rows.F.entry_set_update_loop
def Uq:=@List.filter_eq_self
def Ur:=@Function.comp_apply
def Us:=@List.map_congr_left
def Ut:=@PySem.F.args_tuple_add_2
def Uu:=@PySem.F.slot_list_append
def Uv:=@PySem.F.type_list_append
def Uw:=@PySem.wpAny_passesOwn
def Ux:=@Bool.or_eq_true
def Uy:=@PySem.W.kat_nil
def Uz:=@PyProof.Rows.assignInOrder_cons
def UA:=@PySem.Obj.data_mapFields
def UB:=@PySem.wpAny_pyNext_tuple_item
def UC:=@Nat.le_succ
def UD:=@PySem.F.entry_tuple_add
def UE:=@PySem.wpAny_of_eq
def UF:=@PySem.wpAny_callSpecialUnlessNone?_slot
def UG:=@Nat.mul_comm
def UH:=@List.pairwise_map
def UI:=@PySem.wpAny_pyNext_list_item
def UJ:=@PySem.F.slot_tuple_add
def UK:=@List.drop_eq_nil_of_le
def UL:=@PySem.F.entry_max_loop
def UM:=@PySem.Heap.get?_update_self
def UN:=@PySem.wpAny_pyNext_list_end
def UO:=@PyProof.Rows.boot_max
def UP:=@PySem.wpAny_forIn_list
def UQ:=@List.take_length
def UR:=@Nat.le_add_right
def US:=@List.isEmpty_map
def UT:=@Nat.mul_assoc
def UU:=@Nat.add_assoc
def UV:=@List.map_take
def UW:=@PySem.plainId_quiet
def UX:=@List.mem_of_mem_drop
def UY:=@List.pairwise_append
def UZ:=@Array.mem_toList_iff
def U0:=@List.of_mem_zip
def U1:=@PyProof.Rows.get?_update_seq
def U2:=@List.length_zip
def U3:=@List.getElem?_range
def U4:=@List.filterMap_cons
def U5:=@PySem.W.plainGet_of
def U6:=@List.getElem_of_mem
def U7:=@List.findSome?_cons
def U8:=@Nat.mul_le_mul_left
def U9:=@Nat.min_self
def U_:=@List.mem_filterMap
def Va:=@Bool.and_false
def Vb:=@PySem.wpAny_rule
def Vc:=@PySem.Calls.spliced_cons
def Vd:=@PySem.W.callWith_K
def Ve:=@Nat.lt_of_le_of_lt
def Vf:=@PySem.wpAny_setField
def Vg:=@List.mem_take_iff_getElem
def Vh:=@List.mem_drop_iff_getElem
def Vi:=@PyProof.Rows.assign_Tuple
def Vj:=@PySem.F.slot_dict_getitem
def Vk:=@Nat.mul_add
def Vl:=@Nat.mul_left_comm
def Vm:=@PySem.wpAny_assign_Name
def Vn:=@List.any_eq_false
def Vo:=@PySem.wpAny_letGo
def Vp:=@PySem.wpAny_pyIter_enum
def Vq:=@Bool.eq_false_iff
def Vr:=@PySem.wpAny_dictEntries
def Vs:=@Bool.not_true
def Vt:=@PySem.wpAny_newList
def Vu:=@PySem.wpAny_attempt
def Vv:=@List.all_cons
def Vw:=@List.drop_length
def Vx:=@or_false
def Vy:=@Nat.succ_ne_self
def Vz:=@List.flatMap_map
def VA:=@List.map_flatMap
def VB:=@Nat.mod_lt
def VC:=@Nat.lt_trans
def VD:=@Nat.ne_of_gt
def VE:=@PySem.call_meets
def VF:=@Nat.min_eq_left
def VG:=@Int.le_refl
theorem cT{G:Prop}(h:∀Q:Prop,(G->Q)->Q):G:=h G id
namespace St
open PySem
def s5:Nat->Nat
 | 0=>0
 | n+1=>5*s5 n+1
def g5:Nat->Nat->Nat
 | 0,x=>x
 | n+1,x=>5*g5 n x+1
theorem F7(x:Nat):∀n,g5 n x=x+s5 n*(4*x+1)
 | 0=>by simp[g5,s5]
 | n+1=>by
  unfold g5 s5;rw[F7 x n,Nat.add_mul,Vk,UT]
  lia
theorem AU(x m:Nat):∀n,g5 (m+n) x=g5 n (g5 m x)
 | 0=>rfl
 | n+1=>by rw[<- UU];show 5*g5 (m+n) x+1=_;rw[AU x m n];rfl
theorem BB(m:Nat):∀n,s5 (m+n)=s5 m+s5 n+4*(s5 m*s5 n)
 | 0=>by simp[s5]
 | n+1=>by
  rw[<- UU];show 5*s5 (m+n)+1=s5 m+(5*s5 n+1)+4*(s5 m*(5*s5 n+1));rw[BB m n,Vk (s5 m),Vl (s5 m) 5]
  lia
theorem z8:∀k,∃a,s5 (2 ^ k)=2 ^ k*(2*a+1)
 | 0=>⟨0,rfl⟩
 | k+1=>by
  obtain⟨a,h⟩:=z8 k;rw[TU,Nat.mul_two,BB];generalize s5 (2 ^ k)=s at h;generalize 2 ^ k=N at h;refine⟨a+s*(2*a+1),?_⟩;have e:(N+N)*(2*(a+s*(2*a+1))+1)=2*(N*(2*a+1))+4*(s*(N*(2*a+1))):=by
   rw[<- Nat.two_mul,UT 2 N];rw[show N*(2*(a+s*(2*a+1))+1)=N*(2*a+1)+N*(2*(s*(2*a+1))) by rw[<- Vk];congr 1;lia];rw[Vk,show N*(2*(s*(2*a+1)))=2*(s*(N*(2*a+1))) by
    rw[Vl N 2,Vl N s]]
   lia
  rw[e,<- h];lia
theorem DU(k x:Nat):g5 (2 ^ k) x%2 ^ (k+1)=(x+2 ^ k)%2 ^ (k+1):=by
 obtain⟨a,h⟩:=z8 k;rw[F7,h,TU];generalize 2 ^ k=N;have:x+N*(2*a+1)*(4*x+1)=(x+N)+(N*2)*(a*(4*x+1)+2*x):=by
  rw[UT N,show(2*a+1)*(4*x+1)=2*(a*(4*x+1)+2*x)+1 by rw[Nat.add_mul,UT];lia];rw[Vk,UT N 2];lia
 rw[this,Nat.add_mul_mod_self_left]
theorem full:∀(k x y:Nat),∃n,n<2 ^ k/\g5 n x%2 ^ k=y%2 ^ k
 | 0,x,y=>⟨0,by decide,by simp[Nat.mod_one]⟩
 | k+1,x,y=>by
  obtain⟨n,h1,h2⟩:=full k x y;have hp:2 ^ (k+1)=2*2 ^ k:=by rw[TU,UG]
  by_cases h:g5 n x%2 ^ (k+1)=y%2 ^ (k+1)
  .exact⟨n,by lia,h⟩
  .refine⟨n+2 ^ k,by lia,?_⟩;rw[AU,DU,hp]at *;generalize g5 n x=z at h h2;have hN:0<2 ^ k:=Nat.two_pow_pos k;generalize 2 ^ k=N at *;have e1:=Nat.mod_mod_of_dvd z (⟨2,by rw[UG]⟩:N ∣ 2*N);have e2:=Nat.mod_mod_of_dvd y (⟨2,by rw[UG]⟩:N ∣ 2*N);have b1:=VB z (show 0<2*N by lia);have b2:=VB y (show 0<2*N by lia);rw[Nat.add_mod,Ug (show N<2*N by lia)];generalize z%(2*N)=u at *;generalize y%(2*N)=v at *;have d1:=Nat.div_add_mod u N;have d2:=Nat.div_add_mod v N;have q1:u/N<2:=Nat.div_lt_of_lt_mul (by lia);have q2:v/N<2:=Nat.div_lt_of_lt_mul (by lia);have r1:=VB u hN;have hr:u%N=v%N:=by lia
   generalize u/N=c at *;generalize v/N=d at *;rw[hr]at d1 r1;generalize v%N=w at *;have cc:c=0\/c=1:=by clear d1 d2;lia
   have dd:d=0\/d=1:=by clear d1 d2;lia
   rcases cc with rfl | rfl<;>rcases dd with rfl | rfl
   .exact absurd (by lia) h
   .rw[Ug (by lia)];lia
   .rw[show u+N=2*N+v by lia,Nat.add_mod_left,Ug (by lia)]
   .exact absurd (by lia) h
theorem gap:∀(l:VW)(a:Nat),l.Pairwise (· < ·)->(∀x∈l,a<=x)->∃x,a<=x/\x<=a+l.length/\x∉l
 | [],a,_,_=>⟨a,l_ _,by simp,by simp⟩
 | b::r,a,h,hl=>by
  obtain⟨h1,h2⟩:=List.pairwise_cons.mp h;have hb:=hl b f_
  by_cases e:b=a
  .subst e;obtain⟨x,x1,x2,x3⟩:=gap r (b+1) h2 λx hx=>h1 x hx;refine⟨x,by lia,by simp;lia,λhx=>?_⟩;rcases o_.mp hx with z | z
   .lia
   .exact x3 z
  .refine⟨a,l_ _,by simp,λhx=>?_⟩;rcases o_.mp hx with z | z
   .lia
   .have:=h1 a z;lia
theorem mi(xs:Array Nat)(j:Nat)(up:xs.toList.Pairwise (· < ·)):∀(fuel lo hi:Nat),lo<=hi->hi<=xs.size->hi-lo<=fuel->(∀x∈xs.toList.take lo,x<j)->(∀x∈xs.toList.drop hi,j<=x)->
  ∃r,SetTable.below.go xs j fuel lo hi=r/\r<=xs.size/\(∀x∈xs.toList.take r,x<j)/\∀x∈xs.toList.drop r,j<=x
 | 0,lo,hi,h1,h2,h3,h4,h5=>⟨lo,rfl,by lia,h4,by rw[show lo=hi by lia];exact h5⟩
 | fuel+1,lo,hi,h1,h2,h3,h4,h5=>by
  unfold SetTable.below.go
  by_cases hl:lo<hi
  .rw[i_ hl];dsimp only;have hm:(lo+hi)/2<xs.size:=by lia
   have hg:xs.getD ((lo+hi)/2) j=xs.toList[(lo+hi)/2]'(by simpa using hm):=by simp[Array.getD,hm]
   rw[hg];generalize NS:(lo+hi)/2=mid at *;have NT:mid<xs.toList.length:=by simpa using hm
   by_cases hc:xs.toList[mid]<j
   .rw[i_ hc];refine mi xs j up fuel (mid+1) hi (by lia) h2 (by lia) (λx hx=>?_) h5;obtain⟨i,Pe,rfl⟩:=Vg.mp hx
    by_cases e:i=mid
    .subst e;exact hc
    .exact VC (Um.mp up i mid (by lia) NT (by lia)) hc
   .rw[j_ hc];refine mi xs j up fuel lo mid (by lia) (by lia) (by lia) h4 (λx hx=>?_);obtain⟨i,Pe,rfl⟩:=Vh.mp hx
    by_cases e:i=0
    .subst e;simpa using hc
    .have:=Um.mp up mid (mid+i) NT (by lia) (by lia)
     lia
  .rw[j_ hl];exact⟨lo,rfl,by lia,h4,by rw[show lo=hi by lia];exact h5⟩
theorem uA(xs:Array Nat)(j:Nat)(up:xs.toList.Pairwise (· < ·)):SetTable.below xs j<=xs.size/\(∀x∈xs.toList.take (SetTable.below xs j),x<j)/\∀x∈xs.toList.drop (SetTable.below xs j),j<=x:=by
 obtain⟨r,h1,h2⟩:=mi xs j up xs.size 0 xs.size (Ts _) (l_ _) (l_ _) (by simp) (λx hx=>by rw[<- SC,Vw]at hx;cases hx);unfold SetTable.below;rw[h1];exact h2
theorem below_at(up:xs.toList.Pairwise (· < ·))(h:xs[i]?=some j):SetTable.below xs j=i:=by
 obtain⟨h1,h2,h3⟩:=uA xs j up;generalize SetTable.below xs j=r at *;have h':xs.toList[i]?=some j:=by simpa using h
 obtain⟨hi,e⟩:=s_.mp h';rcases Nat.lt_trichotomy r i with fg | rfl | hgt
 .have hr:r<xs.toList.length:=by lia
  have a1:=h3 xs.toList[r] (Vh.mpr ⟨0,by simpa using hr,by simp⟩);have a2:=Um.mp up r i hr hi fg
  lia
 .rfl
 .have:=h2 xs.toList[i] (Vg.mpr ⟨i,by lia,rfl⟩)
  lia
theorem xr(j:Nat):SetTable.has #[] j=false:=by
 unfold SetTable.has;simp
theorem kE{t:SetTable}{i j:Nat}(up:t.place.toList.Pairwise (· < ·))(h:t.place[i]?=some j):t.slot j=.live i:=by
 unfold SetTable.slot;rw[below_at up h];dsimp only;rw[h];simp
theorem vm{t:SetTable}{j:Nat}(hd:t.dummies=#[])(h:j∉t.place.toList):t.slot j=.empty:=by
 unfold SetTable.slot;dsimp only;rw[j_,hd,xr]
 .rfl
 .intro e;have e2:t.place[SetTable.below t.place j]?=some j:=by simpa using e
  exact h (by have:=Array.mem_of_getElem? e2;simpa using this)
def uO(mask:Nat)(p:SetTable.Probe):SetTable.Probe:=
 if p.more>0 then {p with j:=p.j+1,more:=p.more-1}else
 {p with j:=(SetTable.leap mask p.i p.perturb).1,more:=SetTable.runEnd mask (SetTable.leap mask p.i p.perturb).1-(SetTable.leap mask p.i p.perturb).1,i:=(SetTable.leap mask p.i p.perturb).1,perturb:=(SetTable.leap mask p.i p.perturb).2}
theorem Hw(t:SetTable)(p:SetTable.Probe):t.advance p=uO t.mask p:=rfl
def it(mask:Nat)(p:SetTable.Probe):Nat->SetTable.Probe
 | 0=>p
 | m+1=>uO mask (it mask p m)
theorem jA(mask:Nat)(p:SetTable.Probe):∀m,it mask p (m+1)=it mask (uO mask p) m
 | 0=>rfl
 | m+1=>by show uO mask (it mask p (m+1))=uO mask (it mask (uO mask p) m);rw[jA mask p m]
theorem jj(mask:Nat)(p:SetTable.Probe)(a:Nat):∀b,it mask p (a+b)=it mask (it mask p a) b
 | 0=>rfl
 | b+1=>by rw[<- UU];show uO mask (it mask p (a+b))=_;rw[jj mask p a b];rfl
def st(mask i aQ:Nat):SetTable.Probe:={j:=i,more:=SetTable.runEnd mask i-i,i:=i,perturb:=aQ,dummy:=none}
theorem ua(t:SetTable)(h:Int):t.probeStart h=st t.mask (SetTable.bits h%(t.mask+1)) (SetTable.bits h):=rfl
theorem qV(mask i:Nat)(h:i<=mask):SetTable.runEnd mask i-i<=9/\i<=SetTable.runEnd mask i/\SetTable.runEnd mask i<=mask:=by
 unfold SetTable.runEnd;split<;>lia
theorem nj(mask i aQ:Nat):∀r,r<=SetTable.runEnd mask i-i->it mask (st mask i aQ) r={j:=i+r,more:=SetTable.runEnd mask i-i-r,i:=i,perturb:=aQ,dummy:=none}
 | 0,_=>rfl
 | r+1,h=>by
  show uO mask (it mask (st mask i aQ) r)=_;rw[nj mask i aQ r (by lia)];unfold uO;rw[i_ (by dsimp only;lia)];dsimp only;congr 1
def lp(mask:Nat):Nat->Nat×Nat->Nat×Nat
 | 0,q=>q
 | n+1,q=>lp mask n (SetTable.leap mask q.1 q.2)
theorem qD(mask i aQ:Nat)(h:i<=mask):it mask (st mask i aQ) (SetTable.runEnd mask i-i+1)=st mask (SetTable.leap mask i aQ).1 (SetTable.leap mask i aQ).2:=by
 show uO mask (it mask (st mask i aQ) (SetTable.runEnd mask i-i))=_;rw[nj mask i aQ _ (l_ _)];unfold uO;rw[j_ (by dsimp only;lia)]
 rfl
theorem lF(mask i aQ:Nat):(SetTable.leap mask i aQ).1<=mask:=by
 unfold SetTable.leap;have:=VB (i*5+1+aQ/32) (show 0<mask+1 by lia);dsimp only;lia
theorem Ge(mask:Nat):∀(n i aQ:Nat),i<=mask->∃m,m<=10*n/\it mask (st mask i aQ) m=st mask (lp mask n (i,aQ)).1 (lp mask n (i,aQ)).2
 | 0,i,aQ,_=>⟨0,l_ _,rfl⟩
 | n+1,i,aQ,h=>by
  obtain⟨m,h1,h2⟩:=Ge mask n _ (SetTable.leap mask i aQ).2 (lF mask i aQ);have hr:=(qV mask i h).1;refine⟨SetTable.runEnd mask i-i+1+m,by lia,?_⟩;rw[jj,qD mask i aQ h,h2]
  rfl
theorem xO(mask:Nat):∀(n i aQ:Nat),(lp mask n (i,aQ)).2=aQ/32 ^ n
 | 0,i,aQ=>by simp[lp]
 | n+1,i,aQ=>by
  show(lp mask n ((SetTable.leap mask i aQ).1,aQ/32)).2=_;rw[xO mask n,Nat.div_div_eq_div_mul,TU,UG]
theorem va(mask a:Nat):∀(b:Nat)(q:Nat×Nat),lp mask (b+a) q=lp mask a (lp mask b q)
 | 0,q=>by rw[Tt];rfl
 | b+1,q=>by rw[show b+1+a=(b+a)+1 by lia];show lp mask (b+a) _=lp mask a (lp mask b _);rw[va mask a b]
theorem wx(mask:Nat):∀(n i:Nat),i<=mask->lp mask n (i,0)=(g5 n i%(mask+1),0)
 | 0,i,h=>by show(i,0)=(i%(mask+1),0);rw[Ug (by lia)]
 | n+1,i,h=>by
  have e:lp mask (n+1) (i,0)=SetTable.leap mask (lp mask n (i,0)).1 (lp mask n (i,0)).2:=by rw[va mask 1 n];rfl
  rw[e,wx mask n i h];show((g5 n i%(mask+1)*5+1+0/32)%(mask+1),0/32)=((5*g5 n i+1)%(mask+1),0);have:(g5 n i%(mask+1)*5+1+0/32)%(mask+1)=(5*g5 n i+1)%(mask+1):=by
   rw[Nat.zero_div,Nat.add_zero,Nat.add_mod,Nat.mod_mul_mod,<- Nat.add_mod,UG]
  rw[this]
theorem Gy(mask:Nat):∀(n i aQ:Nat),i<=mask->(lp mask n (i,aQ)).1<=mask
 | 0,i,aQ,h=>h
 | n+1,i,aQ,h=>Gy mask n _ _ (lF mask i aQ)
theorem wD(h:Int):SetTable.bits h<2 ^ 64:=by
 unfold SetTable.bits;have a:=T5 h (show(2 ^ 64:Int)≠0 by decide);have b:=Tf h (show(0:Int)<2 ^ 64 by decide);have c:((2:Int) ^ 64)=((2 ^ 64:Nat):Int):=by decide
 lia
theorem meets(k:Nat)(mask:Nat)(hk:mask+1=2 ^ k)(i aQ x:Nat)(hi:i<=mask)(hp:aQ<2 ^ 64)(hx:x<=mask):∃n,n<=13+mask/\(lp mask n (i,aQ)).1=x:=by
 have z:lp mask 13 (i,aQ)=((lp mask 13 (i,aQ)).1,0):=by
  have:=xO mask 13 i aQ;rw[Nat.div_eq_of_lt (VC hp (by decide))]at this;exact Prod.ext rfl this
 obtain⟨n,h1,h2⟩:=full k (lp mask 13 (i,aQ)).1 x;refine⟨13+n,by lia,?_⟩;rw[va mask n 13,z,wx mask n _ (Gy mask 13 i aQ hi)];show g5 n _%(mask+1)=x;rw[hk,h2,<- hk,Ug (by lia)]
theorem jz(mask:Nat)(p:SetTable.Probe)(h:p.dummy=none):∀m,(it mask p m).dummy=none
 | 0=>h
 | m+1=>by
  show(uO mask (it mask p m)).dummy=none;unfold uO
  split
  .exact jz mask p h m
  .exact jz mask p h m
theorem Gi(mask i aQ:Nat)(hi:i<=mask):∀m,(it mask (st mask i aQ) m).i<=mask/\(it mask (st mask i aQ) m).j+(it mask (st mask i aQ) m).more<=mask
 | 0=>⟨hi,by have:=qV mask i hi;show i+(SetTable.runEnd mask i-i)<=mask;lia⟩
 | m+1=>by
  obtain⟨h1,h2⟩:=Gi mask i aQ hi m;have e:it mask (st mask i aQ) (m+1)=uO mask (it mask (st mask i aQ) m):=rfl;rw[e];generalize it mask (st mask i aQ) m=p at *;unfold uO
  split
  .exact⟨h1,by dsimp only;lia⟩
  .have hl:=lF mask p.i p.perturb;have hr:=qV mask _ hl;exact⟨hl,by dsimp only;lia⟩
structure Ok(t:SetTable)(hs:List Int):Prop where
 dum:t.dummies=#[]
 pw:∃k,t.mask+1=2 ^ k
 up:t.place.toList.Pairwise (· < ·)
 le:∀x∈t.place.toList,x<=t.mask
 len:t.place.size=hs.length
 lt:t.place.size<=t.mask
 ch:∀q∈t.place.toList.zip hs,∃m,(it t.mask (t.probeStart q.2) m).j=q.1/\∀m'<m,(it t.mask (t.probeStart q.2) m').j∈t.place.toList
theorem mx(mask:Nat)(h:Int):SetTable.bits h%(mask+1)<=mask:=by
 have:=VB (SetTable.bits h) (show 0<mask+1 by lia);lia
theorem pz{l:VW}{mask:Nat}(hk:∃k,mask+1=2 ^ k)(up:l.Pairwise (· < ·))(hl:l.length<=mask)(i aQ:Nat)(hi:i<=mask)(hp:aQ<2 ^ 64) :
  ∃n,n<=13+mask/\(lp mask n (i,aQ)).1∉l:=by
 obtain⟨k,hk⟩:=hk;obtain⟨x,_,x2,x3⟩:=gap l 0 up λ_ _=>Ts _;obtain⟨n,h1,h2⟩:=meets k mask hk i aQ x hi hp (by lia);exact⟨n,h1,by rw[h2];exact x3⟩
theorem Ok.soon{t:SetTable}{hs:VX}(o:Ok t hs)(h:Int):∃m,m<10*SetTable.turns t.mask/\(it t.mask (t.probeStart h) m).j∉t.place.toList:=by
 obtain⟨n,h1,h2⟩:=pz o.pw o.up (by simpa using o.lt) _ _ (mx t.mask h) (wD h);obtain⟨m,h3,h4⟩:=Ge t.mask n _ (SetTable.bits h) (mx t.mask h);refine⟨m,by unfold SetTable.turns;lia,?_⟩;rw[ua,h4];exact h2
theorem sP(hd:t.dummies=#[])(up:t.place.toList.Pairwise (· < ·))(ha:Nat->Int)(h:Int):∀(fuel:Nat)(p:SetTable.Probe),p.dummy=none->(∃m,m<fuel/\(it t.mask p m).j∉t.place.toList)->
  ∃met m,SetTable.probe.go t ha h fuel p=some met/\(∀m'<m,∃i,t.place[i]?=some (it t.mask p m').j/\ha i≠h)/\
   ((met=.empty (it t.mask p m).j none/\(it t.mask p m).j∉t.place.toList)\/∃i,t.place[i]?=some (it t.mask p m).j/\ha i=h/\met=.candidate (it t.mask p m).j i (it t.mask p (m+1)))
 | 0,p,_,⟨m,h1,_⟩=>by lia
 | fuel+1,p,hp,⟨m,h1,h2⟩=>by
  unfold SetTable.probe.go
  by_cases hm:p.j∈t.place.toList
  .obtain⟨i,hi⟩:=T8.mp hm;have Jt:t.place[i]?=some p.j:=by simpa using hi
   rw[kE up Jt];dsimp only
   by_cases hh:ha i=h
   .rw[i_ (by simpa using hh)];exact⟨_,0,rfl,λm' z=>by lia,.inr ⟨i,Jt,hh,rfl⟩⟩
   .rw[j_ (by simpa using hh),Hw];have NU:m≠0:=λz=>h2 (by rw[z];exact hm);obtain⟨m1,rfl⟩:∃m1,m=m1+1:=⟨m-1,by lia⟩;obtain⟨met,m2,g1,g2,g3⟩:=sP hd up ha h fuel (uO t.mask p) (by have:=jz t.mask p hp 1;exact this) ⟨m1,by lia,by rw[<- jA];exact h2⟩;refine⟨met,m2+1,g1,λm' ot=>?_,?_⟩
    .cases m' with
     | zero=>exact⟨i,Jt,hh⟩
     | succ m'=>rw[jA];exact g2 m' (by lia)
    .rw[jA,jA];exact g3
  .rw[vm hd hm];dsimp only;exact⟨_,0,rfl,λm' z=>by lia,.inl ⟨by rw[hp];rfl,hm⟩⟩
theorem xy:∀(p:Nat)(xs:List α)(ys:List β)(x:α)(y:β),xs.length=ys.length->p<=xs.length->(xs.take p++x::xs.drop p).zip (ys.take p++y::ys.drop p)=(xs.zip ys).take p++(x,y)::(xs.zip ys).drop p
 | 0,xs,ys,x,y,_,_=>rfl
 | p+1,[],_,_,_,_,h=>by simp at h
 | p+1,_::_,[],_,_,h,_=>by simp at h
 | p+1,a::xs,b::ys,x,y,h,hp=>by
  simp only[List.take_succ_cons,List.drop_succ_cons,Sw,Sv];rw[xy p xs ys x y (by simpa using h) (by simpa using hp)]
theorem qU(p:Nat)(l:List α)(x z:α):z∈l.take p++x::l.drop p↔z=x\/z∈l:=by
 rw[O_,o_];constructor
 .rintro(h | h | h)
  .exact .inr (List.mem_of_mem_take h)
  .exact .inl h
  .exact .inr (UX h)
 .rintro(h | h)
  .exact .inr (.inl h)
  .rw[<- T9 p l]at h;rcases O_.mp h with h | h
   .exact .inl h
   .exact .inr (.inr h)
theorem rK(p:Nat)(l:List α)(x:α):(l.take p++x::l.drop p).length=l.length+1:=by
 rw[h_,m_,<- UU,<- h_,T9]
theorem Ok.put(o:Ok t hs)(h:Int)(m:Nat)(hj:(it t.mask (t.probeStart h) m).j∉t.place.toList)(hb:∀m'<m,(it t.mask (t.probeStart h) m').j∈t.place.toList)(fg:t.place.size+1<=t.mask)(pl:Bool) :
  ∃p,(t.put (it t.mask (t.probeStart h) m).j).2=p/\p<=hs.length/\Ok {(t.put (it t.mask (t.probeStart h) m).j).1 with plain:=pl} (hs.take p++h::hs.drop p):=by
 have hle:=(Gi t.mask _ (SetTable.bits h) (mx t.mask h) m).2;rw[<- ua]at hle;generalize hjj:(it t.mask (t.probeStart h) m).j=j at *;obtain⟨b1,b2,b3⟩:=uA t.place j o.up;refine⟨_,rfl,by rw[<- o.len];exact b1,?_⟩;show Ok {t with place:=SetTable.insertAt t.place (SetTable.below t.place j) j,dummies:=if SetTable.has t.dummies j then SetTable.eraseAt t.dummies (SetTable.below t.dummies j)else t.dummies,plain:=pl} (hs.take (SetTable.below t.place j)++h::hs.drop (SetTable.below t.place j));have hd:(if SetTable.has t.dummies j then SetTable.eraseAt t.dummies (SetTable.below t.dummies j)else t.dummies)=#[]:=by
  rw[o.dum,xr];rfl
 rw[hd];have hl:t.place.toList.length=hs.length:=by rw[<- o.len];simp
 have e1:=SetTable.toList_insertAt t.place (SetTable.below t.place j) j;have hsz:(SetTable.insertAt t.place (SetTable.below t.place j) j).size=t.place.size+1:=by
  rw[<- SC,e1,rK];simp
 refine⟨rfl,o.pw,?_,λx hx=>?_,?_,?_,λq hq=>?_⟩
 .show List.Pairwise _ (SetTable.insertAt t.place _ j).toList;rw[e1];have hup:=o.up;rw[<- T9 (SetTable.below t.place j) t.place.toList]at hup;obtain⟨u1,u2,u3⟩:=UY.mp hup;refine UY.mpr ⟨u1,List.pairwise_cons.mpr ⟨λx hx=>?_,u2⟩,λx hx y hy=>?_⟩
  .have:=b3 x hx;have:x≠j:=λz=>hj (z▸UX hx)
   lia
  .rcases o_.mp hy with rfl | hy
   .exact b2 x hx
   .exact u3 x hx y hy
 .have nF:x∈(SetTable.insertAt t.place (SetTable.below t.place j) j).toList:=hx;rw[e1,qU]at nF;rcases nF with rfl | nF
  .show x<=t.mask;lia
  .exact o.le x nF
 .show(SetTable.insertAt t.place _ j).size=_;rw[hsz,rK,o.len]
 .show(SetTable.insertAt t.place _ j).size<=_;rw[hsz];exact fg
 .have rO:q∈(SetTable.insertAt t.place (SetTable.below t.place j) j).toList.zip (hs.take (SetTable.below t.place j)++h::hs.drop (SetTable.below t.place j)):=hq;have sub:∀x,x∈t.place.toList->x∈(SetTable.insertAt t.place (SetTable.below t.place j) j).toList:=λx hx=>by rw[e1,qU];exact .inr hx
  rw[e1,xy _ _ _ _ _ hl (by simpa using b1),qU]at rO;rcases rO with rfl | rO
  .exact⟨m,hjj,λm' ot=>sub _ (hb m' ot)⟩
  .obtain⟨m2,g1,g2⟩:=o.ch q rO;exact⟨m2,g1,λm' ot=>sub _ (g2 m' ot)⟩
def taken(ow:Array (Option Nat))(j:Nat):Prop:=∃k,ow[j]?=some (some k)
theorem vN(n:Nat)(f:Nat->Bool):(∃k,k<n/\(List.range n).find? f=some k/\f k=true/\∀k'<k,f k'=false)\/((List.range n).find? f=none/\∀k<n,f k=false):=by
 cases e:(List.range n).find? f with
 | none=>
  right;refine⟨rfl,λk hk=>?_⟩;have:=List.find?_eq_none.mp e k (SQ.mpr hk);simpa using this
 | some k=>
  left;obtain⟨h1,h2⟩:=List.find?_eq_some_iff_append.mp e;obtain⟨as,bs,h3,h4⟩:=h2;have hk:k<n:=by
   have:k∈List.range n:=by rw[h3];simp
   exact SQ.mp this
  refine⟨k,hk,rfl,h1,λk' hk'=>?_⟩;have hlen:as.length=k:=by
   have e1:(List.range n)[as.length]?=some k:=by rw[h3];simp
   rw[U3 (by have:=S0 List.length h3;simp at this;lia)]at e1;exact Option.some.inj e1
  have:k'∈as:=by
   have e1:(List.range n)[k']?=some k':=U3 (by lia);rw[h3,D_ (by lia)]at e1;exact F_ e1
  simpa using h4 k' this
theorem wH(hsz:ow.size=mask+1):∀(fuel i aQ:Nat),i<=mask->(∃n,n<fuel/\¬taken ow (lp mask n (i,aQ)).1)->
  ∃m,SetTable.layClean.free mask ow fuel i aQ=some (it mask (st mask i aQ) m).j/\¬taken ow (it mask (st mask i aQ) m).j/\(it mask (st mask i aQ) m).j<=mask/\∀m'<m,taken ow (it mask (st mask i aQ) m').j
 | 0,i,aQ,_,⟨n,h,_⟩=>by lia
 | fuel+1,i,aQ,hi,⟨n,hn,ht⟩=>by
  obtain⟨r1,r2,r3⟩:=qV mask i hi;unfold SetTable.layClean.free;have gd:∀j,j<=mask->((ow.getD j (some 0)).isNone=true↔¬taken ow j):=λj hj=>by
   have hl:j<ow.size:=by lia
   unfold taken;rw[To hl];simp only[Array.getD,hl,dif_pos];cases h:ow[j]with
   | none=>simp[h]
   | some k=>simp[h]
  rcases vN (SetTable.runEnd mask i+1-i) (λk=>(ow.getD (i+k) (some 0)).isNone)with ⟨k,k1,k2,k3,k4⟩ | ⟨k2,k4⟩
  .rw[k2];dsimp only;have e:(it mask (st mask i aQ) k).j=i+k:=by rw[nj mask i aQ k (by lia)]
   refine⟨k,by rw[e],by rw[e];exact(gd _ (by lia)).mp k3,by rw[e];lia,λm' ot=>?_⟩;rw[nj mask i aQ m' (by lia)];have h1:=k4 m' ot;have h2:=gd (i+m') (by lia)
   by_cases hh:taken ow (i+m')
   .exact hh
   .rw[h2.mpr hh]at h1;cases h1
  .rw[k2];dsimp only;have n0:n≠0:=λz=>by
    subst z;have h1:=k4 0 (by lia);rw[Nat.add_zero,(gd i hi).mpr ht]at h1;cases h1
   obtain⟨n',rfl⟩:∃n',n=n'+1:=⟨n-1,by lia⟩;obtain⟨m,g1,g2,g3,g4⟩:=wH hsz fuel _ (SetTable.leap mask i aQ).2 (lF mask i aQ) ⟨n',by lia,ht⟩;rw[<- qD mask i aQ hi,<- jj]at g1 g2 g3;refine⟨_,g1,g2,g3,λm' ot=>?_⟩
   by_cases hh:m'<SetTable.runEnd mask i-i+1
   .rw[nj mask i aQ m' (by lia)];have h1:=k4 m' (by lia);have h2:=gd (i+m') (by lia)
    by_cases hk:taken ow (i+m')
    .exact hk
    .rw[h2.mpr hk]at h1;cases h1
   .have:=g4 (m'-(SetTable.runEnd mask i-i+1)) (by lia);rw[<- qD mask i aQ hi,<- jj]at this;rw[show SetTable.runEnd mask i-i+1+(m'-(SetTable.runEnd mask i-i+1))=m' by lia]at this;exact this
structure Lay(mask:Nat)(done:List Int)(ow:Array (Option Nat)):Prop where
 sz:ow.size=mask+1
 bd:∀(j k:Nat),ow[j]?=some (some k)->k<done.length
 on:∀k<done.length,∃j:Nat,ow[j]?=some (some k)
 inj:∀(j j' k:Nat),ow[j]?=some (some k)->ow[j']?=some (some k)->j=j'
 ch:∀(j k:Nat)(h:Int),ow[j]?=some (some k)->done[k]?=some h->∃m,(it mask (st mask (SetTable.bits h%(mask+1)) (SetTable.bits h)) m).j=j/\∀m'<m,taken ow (it mask (st mask (SetTable.bits h%(mask+1)) (SetTable.bits h)) m').j
def lv(mask:Nat)(ow:Array (Option Nat)):List (Nat×Nat):=(List.range (mask+1)).filterMap λj=>(ow.getD j none).map (j,·)
theorem getD_some{ow:Array (Option Nat)}{j k:Nat}:ow.getD j none=some k↔ow[j]?=some (some k):=by
 by_cases h:j<ow.size
 .simp[Array.getD,h]
 .simp[Array.getD,h]
theorem ig{mask:Nat}{ow:Array (Option Nat)}(hsz:ow.size=mask+1){q:Nat×Nat}:q∈lv mask ow↔ow[q.1]?=some (some q.2):=by
 unfold lv;rw[U_];constructor
 .rintro⟨j,_,h⟩;obtain⟨k,h1,h2⟩:=K_.mp h;subst h2;exact getD_some.mp h1
 .intro h;refine⟨q.1,SQ.mpr ?_,K_.mpr ⟨q.2,getD_some.mpr h,rfl⟩⟩;have:=(Uc.mp h).1
  lia
theorem BS(mask:Nat)(ow:Array (Option Nat)):(lv mask ow).Pairwise λa b=>a.1<b.1:=by
 unfold lv;rw[List.pairwise_filterMap];refine List.Pairwise.imp_of_mem (R:=λ(x y:Nat)=>x<y) (λ{x y} _ _ hxy a ha b hb=>?_) List.pairwise_lt_range;obtain⟨_,_,rfl⟩:=K_.mp ha;obtain⟨_,_,rfl⟩:=K_.mp hb;exact hxy
theorem Lay.nodup(L:Lay mask done ow):((lv mask ow).map (·.2)).Nodup:=by
 unfold List.Nodup;rw[UH];refine List.Pairwise.imp_of_mem (λ{a b} ha hb hab e=>?_) (BS mask ow);have h1:=(ig L.sz).mp ha;have h2:=(ig L.sz).mp hb;rw[e]at h1;have:=L.inj _ _ _ h1 h2
 lia
theorem Lay.perm(L:Lay mask done ow):((lv mask ow).map (·.2)).Perm (List.range done.length):=by
 refine(List.perm_ext_iff_of_nodup L.nodup List.nodup_range).mpr λk=>?_;rw[E_,SQ];constructor
 .rintro⟨q,hq,rfl⟩;exact L.bd _ _ ((ig L.sz).mp hq)
 .intro hk;obtain⟨j,hj⟩:=L.on k hk;exact⟨(j,k),(ig L.sz).mpr hj,rfl⟩
theorem Lay.len(L:Lay mask done ow):(lv mask ow).length=done.length:=by
 have:=L.perm.length_eq;simpa using this
theorem oz(hsz:ow.size=mask+1)(j:Nat):taken ow j↔j∈(lv mask ow).map (·.1):=by
 rw[E_];constructor
 .rintro⟨k,hk⟩;exact⟨(j,k),(ig hsz).mpr hk,rfl⟩
 .rintro⟨q,hq,rfl⟩;exact⟨q.2,(ig hsz).mp hq⟩
theorem Lay.step(hk:∃k,mask+1=2 ^ k)(L:Lay mask done ow)(hr:done.length<=mask)(h:Int) :
  ∃j,SetTable.layClean.free mask ow (SetTable.turns mask) (SetTable.bits h%(mask+1)) (SetTable.bits h)=some j/\Lay mask (done++[h]) (ow.setIfInBounds j (some done.length)):=by
 have hup:((lv mask ow).map (·.1)).Pairwise (· < ·):=UH.mpr (BS mask ow);obtain⟨n,h1,h2⟩:=pz hk hup (by rw[c_,L.len];exact hr) _ _ (mx mask h) (wD h);rw[<- oz L.sz]at h2;obtain⟨m,g1,g2,g3,g4⟩:=wH L.sz (SetTable.turns mask) _ (SetTable.bits h) (mx mask h) ⟨n,by unfold SetTable.turns;lia,h2⟩;refine⟨_,g1,?_⟩;generalize hj:(it mask (st mask (SetTable.bits h%(mask+1)) (SetTable.bits h)) m).j=j at *;have hjl:j<ow.size:=by rw[L.sz];lia
 have at_:∀x:Nat,(ow.setIfInBounds j (some done.length))[x]?=if x=j then some (some done.length)else ow[x]?:=λx=>by
  rw[Array.getElem?_setIfInBounds]
  by_cases e:j=x
  .subst e;simp[hjl]
  .rw[j_ e,j_ (SR e)]
 have keep:∀x,taken ow x->taken (ow.setIfInBounds j (some done.length)) x:=λx az=>by
  obtain⟨k,hx⟩:=az;refine⟨k,?_⟩;rw[at_,j_ (λz=>g2 ⟨k,by rw[<- z];exact hx⟩)];exact hx
 refine⟨by rw[Array.size_setIfInBounds];exact L.sz,λx k hx=>?_,λk hk'=>?_,λx y k hx hy=>?_,λx k h' hx hh=>?_⟩
 .rw[at_]at hx;rw[h_,Si]
  split at hx
  .cases hx;lia
  .have:=L.bd x k hx;lia
 .rw[h_,Si]at hk'
  by_cases e:k=done.length
  .exact⟨j,by rw[at_,i_ rfl,e]⟩
  .obtain⟨x,hx⟩:=L.on k (by lia);exact⟨x,by rw[at_,j_ (λz=>g2 ⟨k,by rw[<- z];exact hx⟩)];exact hx⟩
 .rw[at_]at hx hy
  split at hx<;>split at hy
  .lia
  .cases hx;have:=L.bd y _ hy;lia
  .cases hy;have:=L.bd x _ hx;lia
  .exact L.inj x y k hx hy
 .rw[at_]at hx
  split at hx
  .rename_i e;cases hx;rw[q_ (l_ _),Nat.sub_self]at hh;cases hh;exact⟨m,by rw[hj,e],λm' ot=>keep _ (g4 m' ot)⟩
  .have hk':=L.bd x k hx;rw[D_ hk']at hh;obtain⟨m2,a1,a2⟩:=L.ch x k h' hx hh;exact⟨m2,a1,λm' ot=>keep _ (a2 m' ot)⟩
theorem si(hk:∃k,mask+1=2 ^ k):∀(rest done:VX)(ow:Array (Option Nat)),Lay mask done ow->done.length+rest.length<=mask->
  ∃NV,rest.foldl (λacc h=>do
   let (owner,k) <- acc
   let j <- SetTable.layClean.free mask owner (SetTable.turns mask) (SetTable.bits h%(mask+1)) (SetTable.bits h)
   pure (owner.setIfInBounds j (some k),k+1)) (some (ow,done.length))=some (NV,done.length+rest.length)/\Lay mask (done++rest) NV
 | [],done,ow,L,_=>⟨ow,rfl,by rw[G_];exact L⟩
 | h::rest,done,ow,L,hl=>by
  rw[m_]at hl;obtain⟨j,h1,L2⟩:=L.step hk (by lia) h;obtain⟨NV,h3,L3⟩:=si hk rest (done++[h]) _ L2 (by rw[h_,Si];lia);refine⟨NV,?_,by rw[Su]at L3;exact L3⟩;rw[Tr];have e:(do
   let (owner,k) <- some (ow,done.length)
   let j <- SetTable.layClean.free mask owner (SetTable.turns mask) (SetTable.bits h%(mask+1)) (SetTable.bits h)
   pure (owner.setIfInBounds j (some k),k+1):Option _)=some (ow.setIfInBounds j (some done.length),done.length+1):=by
   show(SetTable.layClean.free mask ow (SetTable.turns mask) (SetTable.bits h%(mask+1)) (SetTable.bits h)).bind _=_;rw[h1];rfl
  rw[e];rw[h_,Si]at h3;rw[h3,m_,UU,Nat.add_comm 1]
theorem yf(mask:Nat):Lay mask [] (Array.replicate (mask+1) none):=by
 have no:∀(j k:Nat),(Array.replicate (mask+1) (none:Option Nat))[j]?≠some (some k):=λj k h=>by
  rw[Array.getElem?_replicate]at h
  split at h<;>cases h
 exact⟨by simp,λj k h=>absurd h (no j k),λk h=>by simp at h,λj _ k h=>absurd h (no j k),λj k _ h=>absurd h (no j k)⟩
theorem sH(hk:∃k,mask+1=2 ^ k)(hs:Array Int)(hl:hs.size<=mask):∃ow,SetTable.layClean mask hs=some ow/\Lay mask hs.toList ow:=by
 obtain⟨ow,h1,h2⟩:=si hk hs.toList [] _ (yf mask) (by simpa using hl);refine⟨ow,?_,h2⟩;unfold SetTable.layClean;rw[<- Array.foldl_toList];have:(List.foldl (λacc h=>do
   let (owner,k) <- acc
   let j <- SetTable.layClean.free mask owner (SetTable.turns mask) (SetTable.bits h%(mask+1)) (SetTable.bits h)
   pure (owner.setIfInBounds j (some k),k+1)) (some (Array.replicate (mask+1) none,0)) hs.toList)=some (ow,0+hs.toList.length):=h1
 rw[this];rfl
theorem DR{mask:Nat}(hk:∃k,mask+1=2 ^ k)(finger moves:Nat)(led plain:Bool){α:Type}(es:Array (Int×α))(hl:es.size<=mask) :
  ∃t' order es',SetTable.laid mask finger moves led plain (es.map (·.1))=some (t',order)/\order.filterMap (es[·]?)=es'/\es'.size=es.size/\es'.toList.Perm es.toList/\t'.mask=mask/\(t'.led=led/\t'.plain=plain)/\t'.place.size=es.size/\Ok t' (es'.toList.map (·.1)):=by
 obtain⟨ow,h1,L⟩:=sH hk (es.map (·.1)) (by simpa using hl);have hpm:=L.perm;have hln:=L.len;have FM:(es.map (·.1)).toList.length=es.size:=by simp
 rw[FM]at hpm hln;have e0:((lv mask ow).map (·.2)).toArray.filterMap (es[·]?)=(((lv mask ow).map (·.2)).filterMap (es[·]?)).toArray:=by simp
 have hperm:(((lv mask ow).map (·.2)).filterMap (es[·]?)).Perm es.toList:=by
  have:=hpm.filterMap (es[·]?);rwa [filterMap_getElem?_range]at this
 have MC:∀q∈lv mask ow,q.2<es.size:=λq hq=>by
  have:=L.bd _ _ ((ig L.sz).mp hq);rwa [FM]at this
 have Ju:(((lv mask ow).map (·.2)).filterMap (es[·]?)).map (·.1)=(lv mask ow).map λq=>((es.map (·.1)).toList.getD q.2 0):=by
  have:∀l:List (Nat×Nat),(∀q∈l,q.2<es.size)->((l.map (·.2)).filterMap (es[·]?)).map (·.1)=l.map λq=>((es.map (·.1)).toList.getD q.2 0):=by
   intro l
   induction l with
   | nil=>intro _;rfl
   | cons q l ih=>
    intro hq;have hh:=hq q f_;rw[B_,List.filterMap_cons_some (b:=es[q.2]) (To hh),B_,ih λx hx=>hq x (d_ _ hx),B_];congr 1;simp[List.getD,hh]
  exact this _ MC
 refine⟨_,_,_,(by unfold SetTable.laid;rw[h1];rfl),rfl,?_,?_,rfl,⟨rfl,rfl⟩,?_,?_⟩
 .show(((lv mask ow).map (·.2)).toArray.filterMap (es[·]?)).size=_;rw[e0,t_,hperm.length_eq];simp
 .show(((lv mask ow).map (·.2)).toArray.filterMap (es[·]?)).toList.Perm _;rw[e0];exact hperm
 .show((lv mask ow).map (·.1)).toArray.size=_;simp[hln]
 .have hl2:(((lv mask ow).map (·.2)).toArray.filterMap (es[·]?)).toList.map (·.1)=(lv mask ow).map λq=>((es.map (·.1)).toList.getD q.2 0):=by
   rw[e0];exact Ju
  have pm:∀x,x∈((lv mask ow).map (·.1))↔taken ow x:=λx=>(oz L.sz x).symm;refine⟨rfl,hk,UH.mpr (BS mask ow),λx hx=>?_,?_,?_,λq hq=>?_⟩
  .obtain⟨k,hx⟩:=(pm x).mp hx;have:=(Uc.mp hx).1;show x<=mask;have:=L.sz
   lia
  .show((lv mask ow).map (·.1)).toArray.size=_;rw[t_,c_];exact(by rw[show(((lv mask ow).map (·.2)).toArray.filterMap (es[·]?)).toList.map (·.1)=(lv mask ow).map λq=>((es.map (·.1)).toList.getD q.2 0)from hl2,c_]:(lv mask ow).length=((((lv mask ow).map (·.2)).toArray.filterMap (es[·]?)).toList.map (·.1)).length)
  .show((lv mask ow).map (·.1)).toArray.size<=mask;simp[hln];exact hl
  .have rO:q∈((lv mask ow).map (·.1)).zip ((((lv mask ow).map (·.2)).toArray.filterMap (es[·]?)).toList.map (·.1)):=hq;rw[hl2,List.zip_map']at rO;obtain⟨r,hr,rfl⟩:=E_.mp rO;have hr1:=(ig L.sz).mp hr;have hr2:=MC r hr;have hr3:(es.map (·.1)).toList[r.2]?=some ((es.map (·.1)).toList.getD r.2 0):=by
    have:r.2<(es.map (·.1)).toList.length:=by simpa using hr2
    rw[Sq,v_ this];rfl
   obtain⟨m,a1,a2⟩:=L.ch r.1 r.2 _ hr1 hr3;exact⟨m,a1,λm' ot=>(pm _).mpr (a2 m' ot)⟩
structure SK{prog:Program}{w:World}{K:Type}[DecidableEq K](knd:HeapKind prog w K):Prop where
 cls:∀{A:Around}{E:Value->Shared->Prop}{s:Shared}{k:K}{a:Addr}{Q:Bool->Shared->Prop},knd.is s.heap k a->Q false s->wpAny (model prog w) A (ofAClassStatement 8 (.ref a)) Q E s
 hbv:∀{A:Around}{E:Value->Shared->Prop}{s:Shared}{k:K}{a:Addr}{Q:Bool->Shared->Prop},knd.is s.heap k a->(∀b,Q b s)->wpAny (model prog w) A (hashByValue 8 (.ref a)) Q E s
def eF:VW:=[7,31,127,511,2047,8191]
theorem lB(h:m∈eF):7<=m/\m<=8191/\m%2=1:=by
 unfold eF at h;simp only[o_,Td,Vx]at h;rcases h with rfl | rfl | rfl | rfl | rfl | rfl<;>decide
section
variable {prog:V2}{w:V5}{K:Type}[DecidableEq K]{knd:HeapKind prog w K}{A:V3}{E:VH}{s:V1}
def ent(knd:HeapKind prog w K)(x:K×V8):Int×V0:=(knd.hash x.1,.ref x.2)
structure Tab(knd:HeapKind prog w K)(es:Array (Int×Value))(t:SetTable)(xs:List (K×Addr)):Prop where
 perm:es.toList.Perm (xs.map (ent knd))
 ok:Ok t (es.toList.map (·.1))
 msk:t.mask∈eF
 nf:t.place.size*5<t.mask*3
theorem Tab.size(T:Tab knd es t xs):es.size=xs.length:=by
 have:=T.perm.length_eq;simpa using this
theorem Tab.psize(T:Tab knd es t xs):t.place.size=es.size:=by
 have:=T.ok.len;simpa using this
theorem fits_of(o:Ok t hs)(hn:t.place.size=n):t.fits n=true:=by
 unfold SetTable.fits SetTable.fill;rw[o.dum];have:=o.lt;simp[hn];lia
theorem Tab.fits(T:Tab knd es t xs):t.fits es.size=true:=fits_of T.ok T.psize
theorem Tab.mem{es:Array (Int×V0)}{t:SetTable}{xs:List (K×V8)}(T:Tab knd es t xs){i:Nat}{e:Int×V0}(h:es[i]?=some e):∃x∈xs,e=ent knd x:=by
 have h1:e∈es.toList:=by have:=Array.mem_of_getElem? h;simpa using this
 obtain⟨x,hx,e2⟩:=E_.mp (T.perm.mem_iff.mp h1);exact⟨x,hx,e2.symm⟩
theorem DT(S:SK knd){b:V8}{k:K}(dJ:knd.is s.heap k b){stored:VP}(hst:∀v∈stored,∃k' c,v=.ref c/\knd.is s.heap k' c){Q:Bool->V1->Prop}(h:Q false s) :
  wpAny (model prog w) A (searchCouldBeSeen (.ref b) stored) Q E s:=by
 unfold searchCouldBeSeen;refine b_ ?_;refine UP _ (λrest r s'=>s'=s/\r=(none,())/\∀v∈rest,∃k' c,v=.ref c/\knd.is s.heap k' c) _ ?_ ?_ _ _ ⟨rfl,rfl,hst⟩
 .rintro x rest r s' ⟨rfl,rfl,hr⟩;obtain⟨k',c,rfl,hc⟩:=hr x f_;dsimp only;have NW:∀v∈rest,∃k' c,v=Value.ref c/\knd.is s'.heap k' c:=λv hv=>hr v (d_ _ hv)
  split
  .exact g_ ⟨rfl,rfl,NW⟩
  .refine b_ (knd.quiet dJ ?_);simp only[Vs,J_,SA];refine b_ (knd.quiet hc ?_);simp only[Vs,J_,SA];refine b_ (S.cls dJ ?_);simp only[J_,SA];refine b_ (S.cls hc ?_);simp only[J_,SA];exact g_ ⟨rfl,rfl,NW⟩
 .rintro r s' ⟨rfl,rfl,_⟩;exact g_ h
theorem sf(h:Q true s):wpAny (model prog w) A (isSame (.ref c) (.ref c)) Q E s:=by
 unfold isSame;dsimp only;rw[i_ (by simp)];exact g_ h
theorem j0(S:SK knd)(hu:knd.room A){a b:V8}{k:K}{o:Obj}{es:Array (Int×V0)}{ep:Nat}{t:SetTable}{xs:List (K×V8)}(ho:s.heap.get? a=some o)(hd:o.data=.set es ep t)(T:Tab knd es t xs)
  (uE:∀x∈xs,knd.is s.heap x.1 x.2) (dJ:knd.is s.heap k b) {kF:Bool} {Q:SetFound->V1->Prop}
  (Dp:∀c,(k,c)∈xs->∀i,Q (.there (if kF=true then none else some i)) s)
  (hout:(∀c,(k,c)∉xs)->∀m,(it t.mask (t.probeStart (knd.hash k)) m).j∉t.place.toList->(∀m'<m,(it t.mask (t.probeStart (knd.hash k)) m').j∈t.place.toList)->Q (.free (it t.mask (t.probeStart (knd.hash k)) m).j false) s)
  (mf:Nat) (hmf:mf<10*SetTable.turns t.mask) (hfr:(it t.mask (t.probeStart (knd.hash k)) mf).j∉t.place.toList) :
  ∀(fuel m:Nat)(CP:Option SetTable.Probe),CP.getD (t.probeStart (knd.hash k))=it t.mask (t.probeStart (knd.hash k)) m->
   (∀m'<m,(it t.mask (t.probeStart (knd.hash k)) m').j∈t.place.toList/\∀i:Nat,t.place[i]?=some (it t.mask (t.probeStart (knd.hash k)) m').j->∀c,(k,c)∈xs->es[i]?≠some (ent knd (k,c)))->mf-m<fuel->
   wpAny (model prog w) A (setSearchFrom a (.ref b) (knd.hash k) kF fuel CP) Q E s
 | 0,m,CP,_,_,h=>by lia
 | fuel+1,m,CP,hst,Q8,hfu=>by
  have hle:m<=mf:=by
   rcases Nat.lt_or_ge mf m with h | h
   .exact absurd (Q8 mf h).1 hfr
   .exact h
  have f:=T.fits;unfold setSearchFrom;refine b_ (Tu ho hd f ?_);dsimp only;rw[j_ (by unfold SetTable.gaveWay;have:=(lB T.msk).2.2;simp[this])];rw[hst];have hdum:(it t.mask (t.probeStart (knd.hash k)) m).dummy=none:=jz _ _ rfl m;obtain⟨met,m1,g1,g2,g3⟩:=sP T.ok.dum T.ok.up (λi=>(es[i]?.map (·.1)).getD 0) (knd.hash k) (10*SetTable.turns t.mask) (it t.mask (t.probeStart (knd.hash k)) m) hdum ⟨mf-m,by lia,by rw[<- jj,show m+(mf-m)=mf by lia];exact hfr⟩;generalize Pf:t.probe _ (knd.hash k) (it t.mask (t.probeStart (knd.hash k)) m)=pr;have hpr2:pr=some met:=Pf.symm.trans g1;subst hpr2;dsimp only;simp only[<- jj]at g2 g3;have FN:∀m'<m+m1,(it t.mask (t.probeStart (knd.hash k)) m').j∈t.place.toList/\∀i:Nat,t.place[i]?=some (it t.mask (t.probeStart (knd.hash k)) m').j->∀c,(k,c)∈xs->es[i]?≠some (ent knd (k,c)):=λm' ot=>by
   by_cases h:m'<m
   .exact Q8 m' h
   .obtain⟨i,e1,e2⟩:=g2 (m'-m) (by lia);rw[show m+(m'-m)=m' by lia]at e1;have e1':t.place.toList[i]?=some (it t.mask (t.probeStart (knd.hash k)) m').j:=by simpa using e1
    refine⟨F_ e1',λi' Jt c hc z=>?_⟩;have e3:=below_at T.ok.up e1;have e4:=below_at T.ok.up Jt;rw[e3]at e4;subst e4;rw[z]at e2;exact e2 rfl
  rcases g3 with ⟨rfl,g4⟩ | ⟨i,p1,p2,rfl⟩
  .dsimp only;refine g_ (hout (λc hc=>?_) (m+m1) g4 λm' ot=>(FN m' ot).1);have h1:ent knd (k,c)∈es.toList:=T.perm.mem_iff.mpr (Uo hc);obtain⟨i,hi⟩:=T8.mp h1;have hil:=(s_.mp hi).1;have fL:i<t.place.toList.length:=by have:=T.psize;simp at hil ⊢;lia
   have hz:(t.place.toList[i],knd.hash k)∈t.place.toList.zip (es.toList.map (·.1)):=by
    refine F_ (i:=i) ?_;rw[Tp];exact⟨v_ fL,by rw[u_,hi];rfl⟩
   obtain⟨m0,a1,a2⟩:=T.ok.ch _ hz;simp only at a1 a2;rcases Nat.lt_trichotomy m0 (m+m1)with fg | heq | hgt
   .refine(FN m0 fg).2 i ?_ c hc (by simpa using hi);rw[a1];simpa using v_ fL
   .rw[<- heq,a1]at g4;exact g4 (Uh fL)
   .exact g4 (a2 _ hgt)
  .dsimp only;have hil:i<es.size:=by have:=(Uc.mp p1).1;rw[T.psize]at this;exact this
   obtain⟨e,he⟩:∃e,es[i]?=some e:=⟨es[i],To hil⟩;obtain⟨x,hx,rfl⟩:=T.mem he;have hxk:=uE x hx;have sj:∀m2,it t.mask (it t.mask (t.probeStart (knd.hash k)) m) m2=it t.mask (t.probeStart (knd.hash k)) (m+m2):=λm2=>(jj ..).symm;have cont:wpAny (model prog w) A (do
     let some (_,y):=es[i]? | unsupported "internal:set-entry"
     let equal <- holding [y] (eqBool y (.ref b))
     let (es',_,t') <- setState a
     if kF&&equal then return .there none
     let some same:=t'.sameMemory t.moves t.mask | unsupported "set.changed-during-lookup:is-the-new-block-at-the-old-address"
     let still <- match (if same then t'.slot (it t.mask (t.probeStart (knd.hash k)) (m+m1)).j else .empty)with
      | .live i'=>match es'[i']? with
       | some (_,y')=>do pure (if <- isSame y' y then some i' else none)
       | none=>pure none
      | _=>pure none
     match still with
     | none=>rule "set.search.anew";setSearchFrom a (.ref b) (knd.hash k) kF fuel none
     | some i'=>if equal then return .there (some i')else setSearchFrom a (.ref b) (knd.hash k) kF fuel (some (it t.mask (t.probeStart (knd.hash k)) (m+(m1+1))))) Q E s:=by
    rw[he];dsimp only[ent];refine b_ (L_ (knd.eqBool hu hxk dJ ?_));refine b_ (Tu ho hd f ?_);dsimp only
    by_cases hkk:x.1=k
    .rw[x_ hkk];have hin':=Dp x.2 (by rw[<- hkk];exact hx);cases hadd:kF with
     | true=>
      simp only[Bool.and_self,TK];have:=hin' 0;rw[hadd]at this;exact g_ this
     | false=>
      simp only[Bool.false_and,J_,SA];have wc:t.sameMemory t.moves t.mask=some true:=by unfold SetTable.sameMemory;simp
      rw[wc];dsimp only;simp only[TK];rw[kE T.ok.up p1];dsimp only;rw[he];dsimp only[ent];refine b_ (sf (b_ (g_ ?_)));simp only[TK];have:=hin' i;rw[hadd]at this;exact g_ this
    .rw[R_ hkk];simp only[Va,J_,SA];have wc:t.sameMemory t.moves t.mask=some true:=by unfold SetTable.sameMemory;simp
     rw[wc];dsimp only;simp only[TK];rw[kE T.ok.up p1];dsimp only;rw[he];dsimp only[ent];refine b_ (sf (b_ (g_ ?_)));simp only[TK];refine j0 S hu ho hd T uE dJ Dp hout mf hmf hfr fuel (m+(m1+1)) _ rfl (λm' ot=>?_) (by
      have hne:m+m1≠mf:=λz=>hfr (by
       rw[<- z];have:t.place.toList[i]?=some (it t.mask (t.probeStart (knd.hash k)) (m+m1)).j:=by simpa using p1
       exact F_ this)
      have hle2:m+m1<=mf:=by
       rcases Nat.lt_or_ge mf (m+m1)with h | h
       .exact absurd (FN mf h).1 hfr
       .exact h
      lia)
     by_cases h:m'<m+m1
     .exact FN m' h
     .have:m'=m+m1:=by lia
      subst this;have p1':t.place.toList[i]?=some (it t.mask (t.probeStart (knd.hash k)) (m+m1)).j:=by simpa using p1
      refine⟨F_ p1',λi' Jt c hc z=>?_⟩;have e3:=below_at T.ok.up p1;have e4:=below_at T.ok.up Jt;rw[e3]at e4;subst e4;rw[he]at z;have z2:x.2=c:=by
       have:=Option.some.inj z;simp only[ent,Prod.mk.injEq,Value.ref.injEq]at this;exact this.2
      have hc':=uE _ hc;simp only at hc';rw[<- z2]at hc';exact hkk (knd.inj hxk hc')
   by_cases hled:t.led=true
   .rw[j_ (by simp[hled])]
    first | exact cont | exact b_ (g_ cont)
   .rw[i_ (by simpa using hled)];refine b_ (DT S dJ (λv hv=>?_) ?_)
    .obtain⟨e,MD,rfl⟩:=E_.mp hv;have uF:e∈es.toList:=by
      have:=(Array.mem_filter.mp (UZ.mp MD)).1;exact UZ.mpr this
     obtain⟨y,hy,rfl⟩:=E_.mp (T.perm.mem_iff.mp uF);exact⟨y.1,y.2,rfl,uE y hy⟩
    .simp only[J_,SA]
     first | exact cont | exact b_ (g_ cont)
end
section
variable {prog:V2}{w:V5}{K:Type}[DecidableEq K]{knd:HeapKind prog w K}{A:V3}{E:VH}{s:V1}
def cN(knd:HeapKind prog w K)(a:V8)(xs:List (K×V8))(h:V4):Prop:=
 ∃o es ep t,h.get? a=some o/\o.ExactSet/\o.data=.set es ep t/\Tab knd es t xs/\(xs.map (·.1)).Nodup
theorem cN.typeIs(h:cN knd a xs s.heap):s.TypeIs (.ref a) "set":=let ⟨o,_,_,_,ho,hc,_⟩:=h;⟨o,ho,hc.1⟩
theorem sQ(h:m∈eF):10*SetTable.turns m<100000:=by
 have:=(lB h).2.1;unfold SetTable.turns;lia
theorem wz(S:SK knd)(hu:knd.room A)(hS:cN knd a xs s.heap)(uE:∀x∈xs,knd.is s.heap x.1 x.2)(dJ:knd.is s.heap k b)
  (h:∀r:Option Nat,r.isSome=decide (k∈xs.map (·.1))->Q r s):wpAny (model prog w) A (setFind a (.ref b) (knd.hash k)) Q E s:=by
 obtain⟨o,es,ep,t,ho,_,hd,T,hn⟩:=hS;unfold setFind setFindIn;refine b_ (Tu ho hd T.fits ?_);dsimp only;rw[j_ (by simp[byScan,Value.scannable])];obtain⟨mf,m1,m2⟩:=T.ok.soon (knd.hash k);have ht:=sQ T.msk;unfold setSearch;refine b_ (j0 S hu ho hd T uE dJ (λc hc i=>?_) (λhc m _ _=>?_) mf m1 m2 100000 0 none rfl (λm' ot=>by lia) (by lia))
 .simp only[J_,SA];refine g_ (h _ ?_);rw[x_ (E_.mpr ⟨(k,c),hc,rfl⟩)];rfl
 .dsimp only;refine g_ (h _ ?_);rw[R_]
  .rfl
  .intro hm;obtain⟨x,hx,e⟩:=E_.mp hm;obtain⟨y,c⟩:=x;simp only at e;subst e;exact hc c hx
theorem Md(S:SK knd)(hu:knd.room A.in1)(hS:cN knd a xs s.heap)(uE:∀x∈xs,knd.is s.heap x.1 x.2)(dJ:knd.is s.heap k b)
  (h:∀tk,Q (.bool (decide (k∈xs.map (·.1)))) {s with toks:=tk}):wpAny (model prog w) A (compareOp .In (.ref b) (.ref a)) Q E s:=by
 show wpAny _ _ (do return .bool (<- contains (.ref a) (.ref b))) Q E s;refine b_ ?_;unfold contains
 try with_reducible refine L_ ?_
 refine b_ (T6 hS.typeIs S9.lookup ?_);show wpAny _ _ (if(some (Value.builtin "set.__contains__")==some Value.none)=true then _ else _) _ E s;rw[j_ (by rw[beq_builtin_none];exact Sf)];refine b_ (UF hS.typeIs S9
  (SL S9 hS.typeIs entry_set_contains ?_ (F.args_set_contains_2 _ _)))
 unfold Builtin.«frozenset.__contains__» Builtin.Frozenset.oneOther;simp only[List.isEmpty_nil,bind_assoc];unfold Builtin.Frozenset.addrOf Builtin.Frozenset.withSetAsKey setContains;refine b_ (g_ ?_)
 try dsimp only
 refine b_ (g_ ?_)
 try dsimp only
 refine b_ (Tg ?_);refine L_ ?_;refine b_ (knd.pyHash hu dJ ?_);refine b_ (wz S hu hS uE dJ λr hr=>?_);refine g_ ?_;show wpAny _ _ (ret (Value.bool r.isSome)) _ _ _;rw[hr];exact g_ ⟨_,rfl,SG (g_ (h _))⟩
theorem Af(S:SK knd)(hu:knd.room A.in1)(hS:cN knd a xs s.heap)(uE:∀x∈xs,knd.is s.heap x.1 x.2)(dJ:knd.is s.heap k b)
  (h:∀tk,Q (.bool (!decide (k∈xs.map (·.1)))) {s with toks:=tk}):wpAny (model prog w) A (compareOp .NotIn (.ref b) (.ref a)) Q E s:=by
 show wpAny _ _ (do return .bool (!(<- contains (.ref a) (.ref b)))) Q E s;refine b_ ?_;unfold contains
 try with_reducible refine L_ ?_
 refine b_ (T6 hS.typeIs S9.lookup ?_);show wpAny _ _ (if(some (Value.builtin "set.__contains__")==some Value.none)=true then _ else _) _ E s;rw[j_ (by rw[beq_builtin_none];exact Sf)];refine b_ (UF hS.typeIs S9
  (SL S9 hS.typeIs entry_set_contains ?_ (F.args_set_contains_2 _ _)))
 unfold Builtin.«frozenset.__contains__» Builtin.Frozenset.oneOther;simp only[List.isEmpty_nil,bind_assoc];unfold Builtin.Frozenset.addrOf Builtin.Frozenset.withSetAsKey setContains;refine b_ (g_ ?_)
 try dsimp only
 refine b_ (g_ ?_)
 try dsimp only
 refine b_ (Tg ?_);refine L_ ?_;refine b_ (knd.pyHash hu dJ ?_);refine b_ (wz S hu hS uE dJ λr hr=>?_);refine g_ ?_;show wpAny _ _ (ret (Value.bool r.isSome)) _ _ _;rw[hr];exact g_ ⟨_,rfl,SG (g_ (h _))⟩
theorem I8(hS:cN knd a xs s.heap)(hfit:(xs.length:Int)<2 ^ 63)(h:∀t tk,Q (.int xs.length t) {s with toks:=tk}) :
  wpAny (model prog w) A (call (.builtin "len") [.ref a]) Q E s:=by
 obtain⟨o,es,ep,t,ho,hex,hd,T,_⟩:=hS;refine call_len_set ho hex hd T.fits (by rw[T.size];exact hfit) ?_;rw[T.size];exact h _ _
theorem l8{h:V4}{a:V8}{o:Obj}{es:Array (Int×V0)}{ep:Nat}{t:SetTable}(ho:h.get? a=some o)(hd:o.data=.set es ep t)(es':Array (Int×V0))(t':SetTable) :
  (h.update a (Obj.putSet es' t')).get? a=some {o with data:=.set es' (ep+1) t'}:=by
 have:=UM (Obj.putSet es' t') ho (by rw[putSet_of es' t' hd];rfl);rw[putSet_of es' t' hd]at this;exact this
theorem nr(h:n<=5000):n<=sizeLine:=by rw[Sr];lia
theorem zg(hm:m∈eF)(h1:n*5<m*3)(h2:m*3<=(n+1)*5)(h3:n+1<=4914):∃m',m'∈eF/\SetTable.sizeAbove (SetTable.grown (n+1))-1=m'/\SetTable.sizeAbove (SetTable.grown (n+1))<=8192/\(n+1)*5<m'*3/\n+1<=m':=by
 have key:∀n0 m',n=n0->m'∈eF/\SetTable.sizeAbove (SetTable.grown (n0+1))-1=m'/\SetTable.sizeAbove (SetTable.grown (n0+1))<=8192/\(n0+1)*5<m'*3/\n0+1<=m'->∃m',m'∈eF/\SetTable.sizeAbove (SetTable.grown (n+1))-1=m'/\SetTable.sizeAbove (SetTable.grown (n+1))<=8192/\(n+1)*5<m'*3/\n+1<=m':=λn0 m' e h=>⟨m',by subst e;exact h⟩;unfold eF at hm;simp only[o_,Td,Vx]at hm;rcases hm with rfl | rfl | rfl | rfl | rfl | rfl
 .exact key 4 31 (by lia) (by decide)
 .exact key 18 127 (by lia) (by decide)
 .exact key 76 511 (by lia) (by decide)
 .exact key 306 2047 (by lia) (by decide)
 .exact key 1228 8191 (by lia) (by decide)
 .lia
theorem Aj(h:m∈eF):∃k,m+1=2 ^ k:=by
 unfold eF at h;simp only[o_,Td,Vx]at h;rcases h with rfl | rfl | rfl | rfl | rfl | rfl
 .exact⟨3,rfl⟩
 .exact⟨5,rfl⟩
 .exact⟨7,rfl⟩
 .exact⟨9,rfl⟩
 .exact⟨11,rfl⟩
 .exact⟨13,rfl⟩
def Fl(a:V8)(L:Bool)(h:V4):Prop:=∃o es ep t,h.get? a=some o/\o.data=.set es ep t/\t.led=L/\t.plain=true
def Nu(prog:V2)(w:V5)(b:V8)(h:V4):Prop:=∀(A:V3)(E:VH)(s:V1)(Q:Bool->V1->Prop),s.heap=h->Q true s->wpAny (model prog w) A (hashByValue 8 (.ref b)) Q E s
theorem AL(ho:s.heap.get? a=some o)(hd:o.data=.set es ep t)(hp:es.toList.Perm l)(ok:Ok t (es.toList.map (·.1)))(hn:es.size=n+1)(hm:t.mask∈eF)(h1:n*5<t.mask*3)(h2:t.mask*3<=(n+1)*5)(h3:n+1<=4914)
  (h:∀es' t',es'.toList.Perm l->Ok t' (es'.toList.map (·.1))->t'.mask∈eF->t'.place.size*5<t'.mask*3->(t'.led=t.led/\t'.plain=t.plain)->Q () {s with heap:=s.heap.update a (Obj.putSet es' t')}) :
  wpAny (model prog w) A (setRelay a (SetTable.grown (n+1))) Q E s:=by
 obtain⟨m',k1,k2,k3,k4,k5⟩:=zg hm h1 h2 h3;have hsz:t.place.size=es.size:=by have:=ok.len;simpa using this
 obtain⟨t',order,es',g1,g2,g3,g4,g5,g6,g7,g8⟩:=DR (Aj k1) t.finger (t.movedTo (SetTable.sizeAbove (SetTable.grown (n+1))-1)) t.led t.plain es (by lia);have hr:t.relaid (es.map (·.1)) (SetTable.grown (n+1))=some (t',order):=by
  unfold SetTable.relaid;rw[<- g1,k2]
 unfold setRelay;refine b_ (Tu ho hd (fits_of ok hsz) ?_);dsimp only;rw[j_ (by have:=Sr;lia)];refine b_ ?_;show wpAny _ _ (do
  let some (t,order):=t.relaid (es.map (·.1)) (SetTable.grown (n+1)) | unsupported "internal:set-table-without-room"
  let es':=order.filterMap (es[·]?)
  if es'.size != es.size then unsupported "internal:set-table-lost-an-element"
  pure (es',t)) _ _ _
 rw[hr];dsimp only;rw[g2,j_ (by simp[g3])];refine g_ ?_;dsimp only;exact wpAny_storeSet_of ho hd (h es' t' (g4.trans hp) g8 (by rw[g5];exact k1) (by rw[g5,g7,hn];exact k4) g6) (by rw[g3,hn];exact nr (by lia))
theorem D9(S:SK knd)(hu:knd.room A){a b:V8}{k:K}{xs:List (K×V8)}(hS:cN knd a xs s.heap)(uE:∀x∈xs,knd.is s.heap x.1 x.2)(dJ:knd.is s.heap k b)(hl:xs.length+1<=4914){Q:Bool->V1->Prop}
  (Dp:k∈xs.map (·.1)->Q false s) (hout:k∉xs.map (·.1)->∀h',Heap.SameBut a s.heap h'->cN knd a (xs++[(k,b)]) h'->(∀L,Nu prog w b s.heap->Fl a L s.heap->Fl a L h')->Q true {s with heap:=h'}) :
  wpAny (model prog w) A (setAddHashed a (.ref b) (knd.hash k)) Q E s:=by
 obtain⟨o,es,ep,t,ho,hex,hd,T,hn⟩:=hS;unfold setAddHashed;refine L_ ?_;unfold setAddHashedIn;refine b_ (Tu ho hd T.fits ?_);dsimp only;rw[j_ (by simp[byScan,Value.scannable])];obtain⟨mf,m1,m2⟩:=T.ok.soon (knd.hash k);have ht:=sQ T.msk;unfold setSearch;refine b_ (j0 S hu ho hd T uE dJ (λc hc i=>?_) (λhc m hm1 Pg=>?_) mf m1 m2 100000 0 none rfl (λm' ot=>by lia) (by lia))
 .simp only[TK];exact g_ (Dp (E_.mpr ⟨(k,c),hc,rfl⟩))
 .dsimp only;have hk:k∉xs.map (·.1):=λhm=>by
   obtain⟨x,hx,e⟩:=E_.mp hm;obtain⟨y,c⟩:=x;simp only at e;subst e;exact hc c hx
  refine b_ (Tu ho hd T.fits ?_);dsimp only;have hmk:=lB T.msk;have hnf:=T.nf;have hps:=T.psize;have hes:=T.size;generalize hj:(it t.mask (t.probeStart (knd.hash k)) m).j=j at *;have rest:∀pl:Bool,(Nu prog w b s.heap->t.plain=true->pl=true)->wpAny (model prog w) A (do
    storeSet a (SetTable.insertAt es (t.put j).2 (knd.hash k,.ref b)) {(t.put j).1 with plain:=pl}
    if({(t.put j).1 with plain:=pl}:SetTable).tooFull then setRelay a (SetTable.grown (es.size+1))
    return true) Q E s:=λpl hfl=>by
   have flt:∀L,Fl a L s.heap->t.led=L/\t.plain=true:=λL ⟨o',es',NX,t',c1,c2,c3,c4⟩=>by
    rw[ho]at c1;cases c1;rw[hd]at c2;cases c2;exact⟨c3,c4⟩
   obtain⟨p,q1,q2,q3⟩:=T.ok.put (knd.hash k) m (by rw[hj];exact hm1) Pg (by lia) pl;rw[hj]at q1 q3;rw[q1];have i1:=SetTable.toList_insertAt es p (knd.hash k,Value.ref b);have i2:(SetTable.insertAt es p (knd.hash k,Value.ref b)).toList.map (·.1)=(es.toList.map (·.1)).take p++knd.hash k::(es.toList.map (·.1)).drop p:=by
    rw[i1,Sg,B_,UV,List.map_drop]
   have i3:(SetTable.insertAt es p (knd.hash k,Value.ref b)).toList.Perm ((xs++[(k,b)]).map (ent knd)):=by
    have e1:=SetTable.insertAt_perm es p (knd.hash k,Value.ref b);rw[Array.toList_push]at e1;refine e1.trans ?_;rw[Sg];exact T.perm.append_right _
   have i4:(SetTable.insertAt es p (knd.hash k,Value.ref b)).size=es.size+1:=by
    rw[<- SC,i1,rK];simp
   rw[<- i2]at q3;have hnd:((xs++[(k,b)]).map (·.1)).Nodup:=by
    rw[Sg];refine S1.mpr ⟨hn,by simp,λx hx y hy=>?_⟩;rw[B_,TV,k_]at hy;subst hy;rintro rfl;exact hk hx
   have hst:=l8 ho hd (SetTable.insertAt es p (knd.hash k,Value.ref b)) {(t.put j).1 with plain:=pl};have hsb:=SE s.heap a (Obj.putSet (SetTable.insertAt es p (knd.hash k,Value.ref b)) {(t.put j).1 with plain:=pl});have xP:({(t.put j).1 with plain:=pl}:SetTable).mask=t.mask:=rfl;have ME:({(t.put j).1 with plain:=pl}:SetTable).place.size=es.size+1:=by
    have:=q3.len;rw[c_,SC,i4]at this;exact this
   refine b_ (wpAny_storeSet_of ho hd ?_ (by rw[i4];exact nr (by lia)))
   by_cases hf:({(t.put j).1 with plain:=pl}:SetTable).tooFull=true
   .rw[i_ hf];have MF:t.mask*3<=(es.size+1)*5:=by
     unfold SetTable.tooFull SetTable.fill at hf;rw[q3.dum]at hf;rw[ME,xP]at hf;simpa using hf
    refine b_ (AL hst rfl i3 q3 i4 T.msk (by rw[xP];lia) (by rw[xP];exact MF) (by lia) λes' t' r1 r2 r3 r4 r5=>?_);refine g_ (hout hk _ (hsb.trans (SE _ a _)) ⟨_,es',_,t',l8 hst rfl es' t',hex,rfl,⟨r1,r2,r3,r4⟩,hnd⟩ λL y z=>⟨_,es',_,t',l8 hst rfl es' t',rfl,?_,?_⟩)
    .rw[r5.1];exact(flt L z).1
    .rw[r5.2];exact hfl y (flt L z).2
   .rw[j_ hf]
    first
     | refine g_ (hout hk _ hsb ?_ λL y z=>⟨_,_,_,_,hst,rfl,(flt L z).1,hfl y (flt L z).2⟩)
     | refine b_ (g_ (g_ (hout hk _ hsb ?_ λL y z=>⟨_,_,_,_,hst,rfl,(flt L z).1,hfl y (flt L z).2⟩)))
    refine⟨_,_,_,_,hst,hex,rfl,⟨i3,q3,T.msk,?_⟩,hnd⟩;unfold SetTable.tooFull SetTable.fill at hf;rw[q3.dum]at hf;rw[ME,xP]at hf ⊢;simpa using hf
  have Q9:({(t.put j).1 with plain:=t.plain}:SetTable)=(t.put j).1:=rfl
  by_cases fL:t.plain=true
  .rw[i_ (show(t.put j).1.plain=true from fL)];have one:=rest t.plain λ_ h=>h;rw[Q9]at one
   by_cases hB:Nu prog w b s.heap
   .exact b_ (hB _ _ _ _ rfl (by simpa using one))
   .refine b_ (S.hbv dJ λbv=>?_);cases bv with
    | true=>simpa using one
    | false=>simpa using rest false λz=>absurd z hB
  .rw[j_ (show ¬(t.put j).1.plain=true from fL)];refine b_ (g_ ?_);have:=rest t.plain λ_ h=>h;rw[Q9]at this;simpa using this
end
end St
abbrev PySem.Shared.sz(s:PySem.Shared):Nat:=s.heap.objs.size
namespace L2
open PySem PySem.Spec PyProof.Rows
abbrev Key:=Sum Int Str
abbrev Wb:=List Key
abbrev Wa:=List Wb
def mD:Key->V0->Bool
 | .inl k,v=>Value.isInt k v
 | .inr x,v=>Value.isStrOf x v
def IC(w:V5):Key->Int
 | .inl k=>hashInt k
 | .inr x=>hashStr w x
theorem bC:∀{k:Key}{v:V0},mD k v=true->(∃i t,k=Sum.inl i/\v=Value.int i t)\/(∃x t,k=Sum.inr x/\v=Value.str x t)
 | .inl i,v,h=>by
  obtain⟨t,e⟩:=Value.isInt_shape (k:=i) (v:=v) h;exact .inl ⟨i,t,rfl,e⟩
 | .inr x,v,h=>by
  obtain⟨t,e⟩:=Value.isStrOf_shape (x:=x) (v:=v) h;exact .inr ⟨x,t,rfl,e⟩
theorem yL(i:Int)(t:Tok):mD (.inl i) (.int i t)=true:=by simp[mD,Value.isInt]
theorem zc(x:Str)(t:Tok):mD (.inr x) (.str x t)=true:=by simp[mD,Value.isStrOf]
theorem IL(a b:Int):decide ((Sum.inl a:Key)=Sum.inl b)=(a==b):=by
 by_cases e:a=b
 .subst e;simp
 .have h:¬(Sum.inl a:Key)=Sum.inl b:=λq=>e (Sum.inl.inj q);rw[R_ h];exact(S_.mpr e).symm
theorem Hc(a b:Str):decide ((Sum.inr a:Key)=Sum.inr b)=decide (a=b):=by
 by_cases e:a=b
 .subst e;simp
 .have h:¬(Sum.inr a:Key)=Sum.inr b:=λq=>e (Sum.inr.inj q);rw[R_ h,R_ e]
theorem Iq(a:Int)(b:Str):decide ((Sum.inl a:Key)=Sum.inr b)=false:=R_ (λq=>nomatch q)
theorem HY(a:Str)(b:Int):decide ((Sum.inr a:Key)=Sum.inl b)=false:=R_ (λq=>nomatch q)
def aF(prog:V2)(w:V5):PySem.KeyKind prog w Key where
 is:=mD
 hash:=IC w
 inj:=λv a b ha hb=>by
  rcases bC ha with ⟨i,t,rfl,rfl⟩ | ⟨x,t,rfl,rfl⟩
  .rcases bC hb with ⟨j,u,rfl,e⟩ | ⟨y,u,rfl,e⟩
   .injection e with e1 _;rw[e1]
   .exact nomatch e
  .rcases bC hb with ⟨j,u,rfl,e⟩ | ⟨y,u,rfl,e⟩
   .exact nomatch e
   .injection e with e1 _;rw[e1]
 byValue:=λk v h=>by
  rcases bC h with ⟨i,t,rfl,rfl⟩ | ⟨x,t,rfl,rfl⟩<;>rfl
 pyHash:=λhv h=>by
  rcases bC hv with ⟨i,t,rfl,rfl⟩ | ⟨x,t,rfl,rfl⟩
  .exact wpAny_pyHash_int h
  .exact wpAny_pyHash_str h
 eqBool:=λhu hv h=>by
  rcases bC hu with ⟨i,t,rfl,rfl⟩ | ⟨x,t,rfl,rfl⟩
  .rcases bC hv with ⟨j,u,rfl,rfl⟩ | ⟨y,u,rfl,rfl⟩
   .rw[IL]at h;exact wpAny_eqBool_int h
   .rw[Iq]at h;exact SeqAt.EqAt.int_str i t y u _ _ _ _ h
  .rcases bC hv with ⟨j,u,rfl,rfl⟩ | ⟨y,u,rfl,rfl⟩
   .rw[HY]at h;exact SeqAt.EqAt.str_int x t j u _ _ _ _ h
   .rw[Hc]at h;exact wpAny_eqBool_str h
 «strs»:=λk x t v h=>by
  rcases bC h with ⟨i,u,rfl,e⟩ | ⟨y,u,rfl,e⟩
  .exact nomatch e
  .injection e with e1 _
   subst e1;cases v<;>rfl
theorem tO(prog:V2)(w:V5)(i:Int)(t:Tok):(aF prog w).is (.inl i) (.int i t)=true:=yL i t
theorem tP(prog:V2)(w:V5)(x:Str)(t:Tok):(aF prog w).is (.inr x) (.str x t)=true:=zc x t
inductive V where
 | non | bl (b:Bool) | int (i:Int) | str (x:Str) | byt (b:Array UInt8) | flt (b:UInt64) | ref (a:Addr) | ty (n:String)
 deriving DecidableEq
abbrev Wh:=List V
def RelV:V->V0->Prop
 | .non,u=>u=Value.none
 | .bl b,u=>u=Value.bool b
 | .int i,u=>∃t,u=Value.int i t
 | .str x,u=>∃t,u=Value.str x t
 | .byt b,u=>∃t,u=Value.bytes b t
 | .flt b,u=>∃t,u=Value.float b t
 | .ref a,u=>u=Value.ref a
 | .ty n,u=>u=Value.type n
abbrev aw:Wh->VP->Prop:=Paired RelV
theorem aw.length{xs:Wh}{us:VP}(r:aw xs us):xs.length=us.length:=Paired.length r
theorem aw.get:∀{xs:Wh}{us:VP}{i:Nat}{x:V},aw xs us->xs[i]?=some x->∃u,us[i]?=some u/\RelV x u
 | _,_,_,_,.nil,e=>by simp at e
 | _,_,0,_,.cons r _,e=>by simp at e;subst e;exact⟨_,rfl,r⟩
 | _,_,i+1,x,.cons _ t,e=>by
  obtain⟨u,h1,h2⟩:=aw.get (i:=i) (x:=x) t (by simpa using e);exact⟨u,by simpa using h1,h2⟩
theorem aw.append:∀{xs ys:Wh}{us ws:VP},aw xs us->aw ys ws->aw (xs++ys) (us++ws)
 | _,_,_,_,.nil,s=>s
 | _,_,_,_,.cons r t,s=>.cons r (aw.append t s)
theorem aw.take:∀{xs:Wh}{us:VP}(n:Nat),aw xs us->aw (xs.take n) (us.take n)
 | _,_,0,_=>.nil
 | _,_,_+1,.nil=>.nil
 | _,_,n+1,.cons r t=>.cons r (aw.take n t)
theorem aw.drop:∀{xs:Wh}{us:VP}(n:Nat),aw xs us->aw (xs.drop n) (us.drop n)
 | _,_,0,r=>r
 | _,_,_+1,.nil=>.nil
 | _,_,n+1,.cons _ t=>aw.drop n t
def oa:Option V->VQ->Prop
 | some v,some u=>RelV v u
 | none,none=>True
 | _,_=>False
def KV{κ:Type}:List (κ×V)->List (κ×V0)->Prop:=Paired λ(p:κ×V) (q:κ×V0)=>p.1=q.1/\RelV p.2 q.2
def kV:Key->V
 | .inl i=>.int i
 | .inr x=>.str x
inductive HO where
  | lst (xs:List V)
  | tup (xs:List V)
  | dK (kvs:List (Key×V)) | dT (kvs:List (List Key×V))
  | set (S:Int->Bool) (n:Nat)
  | ins (C dx:Addr) (fs:List (Str×V))
  | own (x:Addr)
  | xd (fs:List (Str×V))
  | met (f x:Addr)
  | rng (lo hi:Int)
  | frz (o:Obj) (u:HO)
 | tab (q:Str) | cod (q:Str)
  | ext (φ:Heap->Prop)
abbrev Hp:=V8->Option HO
def upd(H:Hp)(a:V8)(o:HO):Hp:=λb=>if b=a then some o else H b
theorem av{H:Hp}{a:V8}{o:HO}:upd H a o a=some o:=by unfold upd;rw[i_ rfl]
theorem au{H:Hp}{a b:V8}{o:HO}(h:b≠a):upd H a o b=H b:=by unfold upd;rw[j_ h]
theorem bf{H:Hp}{a b:V8}{o:HO}(h:H a=some o)(h':H b=none):a≠b:=by
 intro e;subst e;rw[h]at h';cases h'
section
variable (P:V2)(w:V5)
def bp(H:Hp)(h:V4)(a:V8):HO->Prop
 | .lst xs=>xs.length<=sizeLine/\∃(bu:VP)(n:Nat),aw xs bu/\h.get? a=some {cls:=.type "list",data:=.seq bu.toArray n}
 | .tup xs=>xs.length<=sizeLine/\∃bu:VP,aw xs bu/\IsTup h a bu.toArray
 | .dK kvs=>kvs.length<=sizeLine/\(a==sysModules)=false/\∃vs,KV kvs vs/\h.DictOf (aF P w) a vs
 | .dT kvs=>kvs.length<=sizeLine/\(a==sysModules)=false/\∃xs:List (Wb×V8×V0),
   Paired (λ(p:Wb×V) (q:Wb×V8×V0)=>p.1=q.1/\H q.2.1=some (.tup (p.1.map kV))/\RelV p.2 q.2.2) kvs xs/\
   ∃o es ep,h.get? a=some o/\o.ExactDict/\o.data=.dict es ep/\es.toList=xs.map (entryOfKey (tupleKind (aF P w)))/\(xs.map (·.1)).Nodup
 | .set S n=>h.SetOf (intKind P w) a S n
 | .ins C dx fs=>H dx=some (.own a)/\fs.length<=1000/\dx≠a/\h.get? a=some (PySem.W.instObj C dx)/\
   ∃mA,h.Ns1 dx mA/\(∀f,oa (fs.lookup f) (mA f))/\PySem.Within mA (fs.map (·.1))
 | .own _=>∃o,h.get? a=some o
 | .xd fs=>∃mA,h.Ns1 a mA/\∀f,oa (fs.lookup f) (mA f)
 | .rng lo hi=>∃t u v,h.get? a=some {cls:=.type "range",data:=.fields #[.int lo t,.int hi u,.int 1 v]}
 | .frz o u=>h.get? a=some o/\bp H h a u
 | .tab q=>∃ps:Array V0,h.get? a=some {cls:=.none,data:=.fields ps}/\PySem.TriplesOk ps.toList/\∀pos v,PySem.codeAmong pos ps.toList=some v->∃c,v=.ref c/\H c=some (.cod q)
 | .cod q=>∃o vs t,h.get? a=some o/\o.data=.fields vs/\vs[1]?=some (.str q t)
 | .met f x=>h.get? a=some (PySem.W.methodObj (.ref f) (.ref x))
 | .ext φ=>φ h/\(∃o,h.get? a=some o)/\∀h1 h2:V4,φ h1->(∀o,h1.get? a=some o->h2.get? a=some o)->φ h2
def lN(H:Hp)(h:V4):Prop:=∀a o,H a=some o->bp P w H h a o
end
section
variable {P:V2}{w:V5}{H H':Hp}{h h':V4}{a:V8}{o:HO}
theorem bp.lt(x:bp P w H h a o):a<h.objs.size:=by
 cases o with
 | lst xs=>obtain⟨_,_,_,_,e⟩:=x;exact r_ e
 | tup xs=>obtain⟨_,_,_,p⟩:=x;exact p.lt
 | dK kvs=>obtain⟨_,_,_,_,o,_,_,e,_⟩:=x;exact r_ e
 | dT kvs=>obtain⟨_,_,_,_,o,_,_,e,_⟩:=x;exact r_ e
 | set S n=>obtain⟨o,_,_,_,e,_⟩:=x;exact r_ e
 | ins C dx fs=>obtain⟨_,_,_,e,_⟩:=x;exact r_ e
 | own y=>obtain⟨_,e⟩:=x;exact r_ e
 | xd fs=>obtain⟨_,⟨_,_,_,e,_⟩,_⟩:=x;exact r_ e
 | rng lo hi=>obtain⟨_,_,_,e⟩:=x;exact r_ e
 | frz ob u=>obtain⟨e,_⟩:=x;exact r_ e
 | tab q=>obtain⟨_,e,_⟩:=x;exact r_ e
 | cod q=>obtain⟨_,_,_,e,_⟩:=x;exact r_ e
 | met f y=>exact r_ (show h.get? a=some _ from x)
 | ext φ=>obtain⟨_,⟨_,e⟩,_⟩:=x;exact r_ e
theorem Paired.mapP{α β:Type}{F G:α->β->Prop}:∀{l₁:List α}{l₂:List β},Paired F l₁ l₂->(∀a b,F a b->G a b)->Paired G l₁ l₂
 | _,_,.nil,_=>.nil
 | _,_,.cons r t,f=>.cons (f _ _ r) (Paired.mapP t f)
theorem bp.stay(x:bp P w H h a o)(k:∀b u,(b=a\/H b=some (.own a))->h.get? b=some u->h'.get? b=some u)
  (ho:∀b,H b=some (.own a)->H' b=some (.own a)) (ht:∀b xs,H b=some (.tup xs)->H' b=some (.tup xs)) (hc:∀b q,H b=some (.cod q)->H' b=some (.cod q)):bp P w H' h' a o:=by
 induction o with
 | lst xs=>obtain⟨z,bu,n,r,e⟩:=x;exact⟨z,bu,n,r,k _ _ (.inl rfl) e⟩
 | tup xs=>obtain⟨z,bu,r,ob,e,c⟩:=x;exact⟨z,bu,r,ob,k _ _ (.inl rfl) e,c⟩
 | dK kvs=>obtain⟨z,y,vs,r,ob,es,ep,e,c⟩:=x;exact⟨z,y,vs,r,ob,es,ep,k _ _ (.inl rfl) e,c⟩
 | dT kvs=>
  obtain⟨z,y,xs,r,ob,es,ep,e,c⟩:=x;exact⟨z,y,xs,Paired.mapP r λp q z=>⟨z.1,ht _ _ z.2.1,z.2.2⟩,ob,es,ep,k _ _ (.inl rfl) e,c⟩
 | set S n=>obtain⟨ob,es,ep,t,e,c⟩:=x;exact⟨ob,es,ep,t,k _ _ (.inl rfl) e,c⟩
 | ins C dx fs=>
  obtain⟨d,z,ne,e,mA,⟨od,es,ep,e2,c⟩,r⟩:=x;exact⟨ho _ d,z,ne,k _ _ (.inl rfl) e,mA,⟨od,es,ep,k _ _ (.inr d) e2,c⟩,r⟩
 | own y=>obtain⟨ob,e⟩:=x;exact⟨ob,k _ _ (.inl rfl) e⟩
 | xd fs=>obtain⟨mA,⟨od,es,ep,e,c⟩,r⟩:=x;exact⟨mA,⟨od,es,ep,k _ _ (.inl rfl) e,c⟩,r⟩
 | rng lo hi=>obtain⟨t,u,v,e⟩:=x;exact⟨t,u,v,k _ _ (.inl rfl) e⟩
 | frz ob u ih=>obtain⟨e,q⟩:=x;exact⟨k _ _ (.inl rfl) e,ih q⟩
 | tab q=>obtain⟨ps,e,t,c⟩:=x;exact⟨ps,k _ _ (.inl rfl) e,t,λpos v z=>let ⟨b,z1,z2⟩:=c pos v z;⟨b,z1,hc b q z2⟩⟩
 | cod q=>obtain⟨ob,vs,t,e,d⟩:=x;exact⟨ob,vs,t,k _ _ (.inl rfl) e,d⟩
 | met f y=>
  have e:h.get? a=some (PySem.W.methodObj (.ref f) (.ref y)):=x;show h'.get? a=some (PySem.W.methodObj (.ref f) (.ref y));exact k a _ (.inl rfl) e
 | ext φ=>obtain⟨p,⟨o,e⟩,st⟩:=x;exact⟨st _ _ p λo q=>k _ _ (.inl rfl) q,⟨o,k _ _ (.inl rfl) e⟩,st⟩
theorem lN.lt(x:lN P w H h)(e:H a=some o):a<h.objs.size:=(x a o e).lt
theorem lN.fresh(x:lN P w H h)(e:h.objs.size<=a):H a=none:=by
 cases q:H a with
 | none=>rfl
 | some u=>exact absurd (N_ (x.lt q) e) (T7 _)
theorem lN.kept(x:lN P w H h)(k:∀b u,h.get? b=some u->h'.get? b=some u):lN P w H h':=λa o e=>
 (x a o e).stay (λb u _ q=>k b u q) (λ_ q=>q) (λ_ _ q=>q) λ_ _ q=>q
theorem lN.laid(x:lN P w H h)(k:∀b u,h.get? b=some u->h'.get? b=some u)(hp:h.objs.size<=a)(new:bp P w (upd H a o) h' a o):lN P w (upd H a o) h':=λb u e=>by
 have hn:=x.fresh hp
 by_cases hb:b=a
 .subst hb;rw[av]at e;cases e;exact new
 .rw[au hb]at e;exact(x b u e).stay (λc v _ q=>k c v q) (λc q=>by rw[au (bf q hn)];exact q) (λc xs q=>by rw[au (bf q hn)];exact q) λc xs q=>by rw[au (bf q hn)];exact q
end
def Rd(H:Hp)(a:V8)(u:HO):Prop:=H a=some u\/∃o,H a=some (.frz o u)
theorem Rd.ok{P:V2}{w:V5}{H:Hp}{h:V4}{a:V8}{u:HO}(r:Rd H a u)(x:lN P w H h):bp P w H h a u:=by
 rcases r with r | ⟨o,r⟩
 .exact x a u r
 .obtain⟨_,q⟩:=x a _ r;exact q
def NL:Option HO->Prop
 | some (.lst _)=>True
 | some (.dK _)=>True
 | some (.dT _)=>True
 | some (.set _ _)=>True
 | some (.ins _ _ _)=>True
 | some (.ext _)=>True
 | _=>False
section
variable {P:V2}{w:V5}{H:Hp}{h h':V4}{x e:V8}{o':HO}
theorem lN.write(ok:lN P w H h)(mu:NL (H x))(he:e=x\/H e=some (.own x))(k:∀b u,b≠e->h.get? b=some u->h'.get? b=some u)(Kn:∃u,h'.get? e=some u)
  (new:bp P w (upd H x o') h' x o'):lN P w (upd H x o') h':=λb u q=>by
 have MG:∀c y,H c=some (.own y)->c≠x:=λc y r z=>by subst z;rw[r]at mu;exact mu
 have ntup:∀c xs,H c=some (.tup xs)->c≠x:=λc xs r z=>by subst z;rw[r]at mu;exact mu
 have ncod:∀c q,H c=some (.cod q)->c≠x:=λc q r z=>by subst z;rw[r]at mu;exact mu
 by_cases hb:b=x
 .subst hb;rw[av]at q;cases q;exact new
 .rw[au hb]at q
  by_cases hbe:b=e
  .have q':H b=some (.own x):=by
    rcases he with z | z
    .exact absurd (hbe.trans z) hb
    .rw[hbe];exact z
   rw[q]at q';cases q';obtain⟨v,hv⟩:=Kn;exact⟨v,by rw[hbe];exact hv⟩
  .refine(ok b u q).stay (λc v hc r=>k c v ?_ r) (λc r=>by rw[au (MG c b r)];exact r) (λc xs r=>by rw[au (ntup c xs r)];exact r) λc xs r=>by rw[au (ncod c xs r)];exact r
   rcases hc with rfl | hc
   .exact hbe
   .rintro rfl;rcases he with z | z
    .exact MG c b hc z
    .rw[hc]at z;cases z;exact hb rfl
end
structure Un(fs ex:List Addr)(H H':Hp)(h h':Heap):Prop where
 keep:∀b o,h.get? b=some o->H b=none->b∉fs->b∉ex->h'.get? b=some o
 slot:∀b o,h.get? b=some o->H b=none->b∈fs->b∉ex->∃sl,h'.get? b=some {o with slots:=sl}
 free:∀b o,h.get? b=some o->H b=none->b∉ex->H' b=none
 there:∀b o,h.get? b=some o->b∉ex->∃o',h'.get? b=some o'
 tups:∀b xs,H b=some (.tup xs)->H' b=some (.tup xs)
 frzs:∀b o u,H b=some (.frz o u)->H' b=some (.frz o u)
 tbls:∀b q,H b=some (.tab q)->H' b=some (.tab q)
section
variable {fs MH ex ex':VT}{H H1 H2:Hp}{h h1 h2 h':V4}{a x e:V8}{o:HO}
theorem Un.any(u:Un fs ex H H1 h h1){b:V8}{ob:Obj}(q:h.get? b=some ob)(n:H b=none)(hx:b∉ex):∃sl,h1.get? b=some {ob with slots:=sl}:=by
 by_cases hb:b∈fs
 .exact u.slot b ob q n hb hx
 .exact⟨ob.slots,u.keep b ob q n hb hx⟩
theorem Un.trans(a:Un fs ex H H1 h h1)(b:Un fs ex H1 H2 h1 h2):Un fs ex H H2 h h2 where
 keep:=λc ob q n hc hx=>b.keep c ob (a.keep c ob q n hc hx) (a.free c ob q n hx) hc hx
 slot:=λc ob q n hc hx=>by
  obtain⟨sl,e1⟩:=a.slot c ob q n hc hx;obtain⟨Ph,e2⟩:=b.slot c _ e1 (a.free c ob q n hx) hc hx;exact⟨Ph,e2⟩
 free:=λc ob q n hx=>by
  obtain⟨o',e1⟩:=a.there c ob q hx;exact b.free c o' e1 (a.free c ob q n hx) hx
 there:=λc ob q hx=>by
  obtain⟨o',e1⟩:=a.there c ob q hx;exact b.there c o' e1 hx
 tups:=λc xs q=>b.tups c xs (a.tups c xs q)
 frzs:=λc ob xs q=>b.frzs c ob xs (a.frzs c ob xs q)
 tbls:=λc ps q=>b.tbls c ps (a.tbls c ps q)
theorem Un.kept(k:∀b u,h.get? b=some u->h'.get? b=some u):Un fs ex H H h h':=
 ⟨λb ob q _ _ _=>k b ob q,λb ob q _ _ _=>⟨ob.slots,k b ob q⟩,λ_ _ _ n _=>n,λb ob q _=>⟨ob,k b ob q⟩,λ_ _ q=>q,λ_ _ _ q=>q,λ_ _ q=>q⟩
theorem Un.refl:Un fs ex H H h h:=Un.kept λ_ _ q=>q
theorem Un.laid(k:∀b u,h.get? b=some u->h'.get? b=some u)(hp:h.objs.size<=a)(hn:H a=none):Un fs ex H (upd H a o) h h' where
 keep:=λb u q _ _ _=>k b u q
 slot:=λb u q _ _ _=>⟨u.slots,k b u q⟩
 free:=λb u q n _=>by rw[au (w_ (N_ (r_ q) hp))];exact n
 there:=λb u q _=>⟨u,k b u q⟩
 tups:=λb xs q=>by rw[au (bf q hn)];exact q
 frzs:=λb u xs q=>by rw[au (bf q hn)];exact q
 tbls:=λb ps q=>by rw[au (bf q hn)];exact q
theorem Un.write(mu:NL (H x))(he:e=x\/H e=some (.own x))(k:∀b u,b≠e->h.get? b=some u->h'.get? b=some u)(Kn:∃u,h'.get? e=some u):Un fs ex H (upd H x o) h h':=by
 have hx:∀b,H b=none->b≠x:=λb n z=>by subst z;rw[n]at mu;exact mu
 have hb:∀b,H b=none->b≠e:=λb n z=>by
  subst z;rcases he with r | r
  .exact hx b n r
  .rw[n]at r;cases r
 have hm:∀b u,H b=some u->¬NL (some u)->b≠x:=λb u q nm z=>by subst z;rw[q]at mu;exact nm mu
 refine⟨λb u q n _ _=>k b u (hb b n) q,λb u q n _ _=>⟨u.slots,k b u (hb b n) q⟩,λb u q n _=>by rw[au (hx b n)];exact n,λb u q _=>?_,
  λb xs q=>by rw[au (hm b _ q λz=>z)];exact q,λb u xs q=>by rw[au (hm b _ q λz=>z)];exact q,λb ps q=>by rw[au (hm b _ q λz=>z)];exact q⟩
 by_cases hbe:b=e
 .subst hbe;exact Kn
 .exact⟨u,k b u hbe q⟩
end
def NC(h:V4)(H:Hp):VT:=(List.range h.objs.size).filter λa=>(H a).isSome
def qt(h:V4)(H:Hp):V4:=PySem.W.hideAll h (NC h H)
theorem yY(h:V4)(H:Hp):(qt h H).objs.size=h.objs.size:=PySem.W.hideAll_size _ _
theorem Be{h:V4}{H:Hp}{b:V8}{o:Obj}(e:h.get? b=some o)(n:H b=none):(qt h H).get? b=some o:=
 PySem.W.hideAll_get _ e λhm=>by
  have q:(H b).isSome=true:=(SS.mp hm).2;rw[n]at q;simp at q
theorem DQ{h:V4}{H:Hp}{b:V8}{o:Obj}(e:(qt h H).get? b=some o):h.get? b=some o/\H b=none:=by
 have e':h.get? b=some o:=PySem.W.of_hideAll (NC h H) e;refine⟨e',?_⟩;cases q:H b with
 | none=>rfl
 | some x=>
  have hm:b∈NC h H:=SS.mpr ⟨SQ.mpr (r_ e'),by simp[q]⟩;have z:(qt h H).get? b=none:=PySem.W.hideAll_none (NC h H) hm;rw[z]at e;cases e
def DP(g h:V4)(L:V8):VI:=(List.range h.objs.size).filterMap λa=>if a=L\/(g.get? a).isSome=true then none else(h.get? a).map λo=>(a,o)
def rest(g h:V4)(L d:V8):VI:=(DP g h L).filter λp=>decide (p.1≠d)
def HS:VS:=["best_in","best_shown","Answerer.shoot"]
def Lf(K:VZ)(f:V8):Option (V8×V8):=match K.lookup f with
 | some ⟨_,_,.func fd,_⟩=>(match fd.code with
  | .ref c=>(match K.lookup c with
   | some ⟨_,_,.fields vs,_⟩=>(match (vs[11]?:VQ)with
    | some (.ref P)=>some (c,P)
    | _=>none)
   | _=>none)
  | _=>none)
 | _=>none
def vS(K:VZ)(x m:Str):Option (V8×V8):=match PySem.W.nsIn K mainGlobals x with
 | some (some (.ref C))=>(match PySem.W.findIn K (.ref C) m with
  | some (some (.ref f))=>Lf K f
  | _=>none)
 | _=>none
def yc(K:VZ)(x:Str):Option (V8×V8):=if x="Answerer.shoot" then vS K "Answerer" "shoot" else PySem.W.tabIn K x
def tq(K:VZ)(P:V8):Option Str:=HS.findSome? λx=>(yc K x).bind λp=>if p.2=P then some (x++".<locals>."++"<lambda>")else none
structure Mod(K:PySem.W.Frag)(mg:Str->Option Value)(base:Heap):Prop where
 kin:K.In base
 glob:base.Ns mainGlobals mg
 blt:∃mb,base.Ns builtinsNs mb/\∀x:Str,x≠"__name__"->mb x=bootBuiltins x
 nolimit:base.NoLimit
 bmod:∃bm o,mg "__builtins__"=some (.ref bm)/\bm≠builtinsNs/\bm≠mainGlobals/\base.get? bm=some o/\o.cls=.type "module"/\o.dict=some builtinsNs/\o.data=.plain
structure Cx where
 prog:Program
 w:World
 K:PySem.W.Frag
 mg:Str->Option Value
 base:Heap
 A:Around
 N:List Str
 s₀:Shared
 H₀:Hp
 env:Env
 outer:List Env
 stack:List Env
 ex:List Addr
 fn:Str->Bool
 calm:Bool
 pn:List (Addr×Obj)
 xe:Value->Shared->Prop
def rS(l:List Env):VT:=l.filterMap (·.frame)
abbrev Cx.fs(X:Cx):VT:=rS X.outer
def qP(sc:V7)(x:Str):Prop:=sc.names.lookup x=some .local\/sc.names.lookup x=some .cell\/sc.names.lookup x=some .free
def Loc(sc:V7)(x:Str):Prop:=sc.names.lookup x=some .local\/sc.names.lookup x=some .cell
def Look(env:Env)(h:V4)(m:VL)(x:Str)(u:V0):Prop:=
 (env.kindOf x=some .local/\m x=some u)\/((env.kindOf x=some .cell\/env.kindOf x=some .free)/\∃c,env.cells.lookup x=some c/\h.IsCell c (some u))
structure Cx.Ok(X:Cx):Prop where
 mod:Mod X.K X.mg X.base
 kind:X.env.scope.kind=.function
 glob:X.env.globals=mainGlobals
 blt:X.env.builtins=builtinsNs
 above:X.s₀.heap.objs.size<=X.env.locals
 inj:∀x y c,X.env.cells.lookup x=some c->X.env.cells.lookup y=some c->x=y
 has:∀x,(X.env.kindOf x=some .cell\/X.env.kindOf x=some .free)->∃c,X.env.cells.lookup x=some c
 cab:∀x c,X.fn x=true->X.env.cells.lookup x=some c->X.s₀.heap.objs.size<=c
 hd:X.calm=true->X.A.handled=none
 frames:X.A.frames=some X.stack
 stk:X.stack=X.outer\/(X.stack=X.env::X.outer/\X.env.frame=some X.env.locals)
 exf:∀b∈X.ex,b≠X.env.locals/\∀x c,X.env.cells.lookup x=some c->c≠b
 bs:∀b o,X.base.get? b=some o->X.s₀.heap.get? b=some o/\X.H₀ b=none
 bsz:X.base.objs.size<=X.s₀.heap.objs.size
 noex:∀b o,X.base.get? b=some o->b∉X.ex
 exfs:∀b∈X.ex,b∉X.fs
 funs:X.s₀.heap.FunFrames X.base X.outer
 frf:∀b∈X.fs,X.H₀ b=none
 tb:∀P q,tq X.K P=some q->X.H₀ P=some (.tab q)
structure Inv(X:Cx)(pins:List (Addr×Obj))(σ:List (Option V))(H:Hp)(s:Shared):Prop where
 ok:X.Ok
 os:s.os=X.s₀.os
 bare:AllBare s.gens
 base:Un X.fs X.ex X.H₀ H X.s₀.heap s.heap
 loc:∃m,s.heap.Ns X.env.locals m/\∀(i:Nat)(x:Str)(v:V),X.N[i]?=some x->σ[i]?=some (some v)->qP X.env.scope x->∃u,RelV v u/\Look X.env s.heap m x u
 cell:∀x c,X.env.cells.lookup x=some c->∃v,s.heap.IsCell c v
 free:H X.env.locals=none
 freeC:∀x c,X.env.cells.lookup x=some c->H c=none
 pin:∀p∈X.pn++pins,s.heap.get? p.1=some p.2/\H p.1=none/\p.1≠X.env.locals/\p.1∉X.fs/\∀v,p.2.data≠.cell v
 hok:lN X.prog X.w H s.heap
 len:σ.length=X.N.length
section
variable {X:Cx}{pins:VI}{σ:List (Option V)}{H H':Hp}{s:V1}{h':V4}
theorem Cx.Ok.nofr(ok:X.Ok){b:V8}{o:Obj}(e:X.base.get? b=some o):b∉X.fs:=λhb=>by
 have:=(ok.funs.mem hb).1;rw[e]at this;cases this
theorem Inv.bs(I:Inv X pins σ H s):∀b o,X.base.get? b=some o->s.heap.get? b=some o/\H b=none:=λb o e=>
 ⟨I.base.keep b o (I.ok.bs b o e).1 (I.ok.bs b o e).2 (I.ok.nofr e) (I.ok.noex b o e),I.base.free b o (I.ok.bs b o e).1 (I.ok.bs b o e).2 (I.ok.noex b o e)⟩
theorem Inv.bk(I:Inv X pins σ H s):∀b o,X.base.get? b=some o->s.heap.get? b=some o:=λb o e=>(I.bs b o e).1
theorem Inv.tb(I:Inv X pins σ H s):∀P q,tq X.K P=some q->H P=some (.tab q):=λP q e=>I.base.tbls P q (I.ok.tb P q e)
theorem Inv.mod(I:Inv X pins σ H s):Mod X.K X.mg X.base:=I.ok.mod
theorem Inv.kIn(I:Inv X pins σ H s):X.K.In s.heap:=I.ok.mod.kin.keeps I.bk
theorem Inv.nolimit(I:Inv X pins σ H s):s.heap.NoLimit:=I.ok.mod.nolimit.keeps I.bk
theorem Inv.lt(I:Inv X pins σ H s):X.env.locals<s.heap.objs.size:=let ⟨_,hn,_⟩:=I.loc;hn.lt
theorem Inv.sz(I:Inv X pins σ H s):X.s₀.heap.objs.size<=s.heap.objs.size:=M_ I.ok.above (TX I.lt)
theorem Inv.nofs(I:Inv X pins σ H s){a:V8}(h:s.heap.objs.size<=a):a∉X.fs:=λhb=>by
 obtain⟨_,o,ho,_⟩:=I.ok.funs.mem hb;exact absurd (N_ (r_ ho) (M_ I.sz h)) (T7 _)
theorem Inv.cne(I:Inv X pins σ H s):∀x c,X.env.cells.lookup x=some c->c≠X.env.locals:=λx c e z=>by
 obtain⟨v,o,ho,hd⟩:=I.cell x c e;obtain⟨m,⟨o',es,ep,CQ,MI,_⟩,_⟩:=I.loc;rw[z,CQ]at ho;cases ho;rw[MI]at hd;cases hd
theorem Inv.funs(I:Inv X pins σ H s):s.heap.FunFrames X.base X.outer:=by
 have all:∀(l:List Env),(∀b∈rS l,b∈X.fs)->X.s₀.heap.FunFrames X.base l->s.heap.FunFrames X.base l:=by
  intro l
  induction l with
  | nil=>intro _ _;trivial
  | cons env r ih=>
   intro hs hl;obtain⟨hk,⟨L,o,hf,hn,ho,hd⟩,hr⟩:=hl;have hL:L∈X.fs:=hs L (by unfold rS;rw[U4,hf];exact f_);obtain⟨sl,e⟩:=I.base.slot L o ho (I.ok.frf L hL) hL λz=>I.ok.exfs L z hL;exact⟨hk,⟨L,_,hf,hn,e,hd⟩,ih (λb hb=>hs b (by unfold rS;rw[U4,hf];exact d_ _ hb)) hr⟩
 exact all X.outer (λ_ hb=>hb) I.ok.funs
theorem Inv.stack(I:Inv X pins σ H s):s.heap.FunFrames X.base X.stack:=by
 rcases I.ok.stk with e | ⟨e,hf⟩
 .rw[e];exact I.funs
 .rw[e];obtain⟨m,hn,_⟩:=I.loc;refine .cons (by rw[I.ok.kind];decide) hf hn ?_ I.funs;exact Heap.get?_none_of_le (M_ I.ok.bsz I.ok.above)
theorem Inv.stkSub(I:Inv X pins σ H s):∀b∈rS X.stack,b∈X.env.locals::X.fs:=λb hb=>by
 rcases I.ok.stk with e | ⟨e,hf⟩
 .rw[e]at hb;exact d_ _ hb
 .rw[e]at hb;unfold rS at hb;rw[U4,hf]at hb;exact hb
theorem Inv.stkFree(I:Inv X pins σ H s):∀b∈rS X.stack,H b=none:=λb hb=>by
 rcases o_.mp (I.stkSub b hb)with e | hb
 .rw[e];exact I.free
 .obtain⟨_,o,ho,_⟩:=I.ok.funs.mem hb;exact I.base.free b o ho (I.ok.frf b hb) λz=>I.ok.exfs b z hb
theorem Inv.step{g':Array GenState}{t':Nat}{d':Drawn}{ch:VT}(I:Inv X pins σ H s)
  (uG:∀b∈ch,(b∈X.ex\/X.s₀.heap.objs.size<=b)/\b≠X.env.locals/\(∀x c,X.env.cells.lookup x=some c->c≠b)/\∀p∈X.pn++pins,p.1≠b)
  (keep:∀b o,b≠X.env.locals->b∉X.fs->b∉ch->s.heap.get? b=some o->H b=none->h'.get? b=some o)
  (slot:∀b o,b≠X.env.locals->b∈X.fs->b∉ch->s.heap.get? b=some o->H b=none->∃sl,h'.get? b=some {o with slots:=sl}) (free:∀b o,b∉ch->s.heap.get? b=some o->H b=none->H' b=none)
  (there:∀b o,b∉ch->s.heap.get? b=some o->∃o',h'.get? b=some o')
  (tups:∀b xs,H b=some (.tup xs)->H' b=some (.tup xs)) (frzs:∀b o u,H b=some (.frz o u)->H' b=some (.frz o u)) (tbls:∀b q,H b=some (.tab q)->H' b=some (.tab q))
  (ns:∀m,s.heap.Ns X.env.locals m->h'.Ns X.env.locals m) (hok:lN X.prog X.w H' h') (hg:AllBare g') :
  Inv X pins σ H' {s with heap:=h',gens:=g',drawn:=d',toks:=t'}:=by
 have Ra:∀b o,X.s₀.heap.get? b=some o->b≠X.env.locals:=λb o e=>w_ (N_ (r_ e) I.ok.above);have NY:∀b o,X.s₀.heap.get? b=some o->b∉X.ex->b∉ch:=λb o e hx hb=>by
  rcases(uG b hb).1 with z | z
  .exact hx z
  .exact absurd (N_ (r_ e) z) (T7 _)
 have cellK:∀x c,X.env.cells.lookup x=some c->∀v,s.heap.IsCell c v->h'.IsCell c v:=λx c e v az=>by
  obtain⟨o,ho,hd⟩:=az;have MJ:c∉ch:=λz=>(uG c z).2.2.1 x c e rfl
  by_cases hc:c∈X.fs
  .obtain⟨sl,q⟩:=slot c o (I.cne x c e) hc MJ ho (I.freeC x c e);exact⟨_,q,hd⟩
  .exact⟨o,keep c o (I.cne x c e) hc MJ ho (I.freeC x c e),hd⟩
 refine⟨I.ok,I.os,hg,⟨λb o e n hb hx=>?_,λb o e n hb hx=>?_,λb o e n hx=>?_,λb o e hx=>?_,λb xs e=>tups b xs (I.base.tups b xs e),λb o xs e=>frzs b o xs (I.base.frzs b o xs e),λb ps e=>?_⟩,?_,λx c e=>?_,?_,λx c e=>?_,λp hp=>?_,hok,I.len⟩
 .exact keep b o (Ra b o e) hb (NY b o e hx) (I.base.keep b o e n hb hx) (I.base.free b o e n hx)
 .obtain⟨sl,e1⟩:=I.base.slot b o e n hb hx;obtain⟨Ph,e2⟩:=slot b _ (Ra b o e) hb (NY b o e hx) e1 (I.base.free b o e n hx);exact⟨Ph,e2⟩
 .obtain⟨o',e1⟩:=I.base.there b o e hx;exact free b o' (NY b o e hx) e1 (I.base.free b o e n hx)
 .obtain⟨o',e1⟩:=I.base.there b o e hx;exact there b o' (NY b o e hx) e1
 .exact tbls b _ (I.base.tbls b ps e)
 .obtain⟨m,hn,hl⟩:=I.loc;refine⟨m,ns m hn,λi x v e1 e2 e3=>?_⟩;obtain⟨u,r,l⟩:=hl i x v e1 e2 e3;refine⟨u,r,?_⟩;rcases l with l | ⟨k,c,e,z⟩
  .exact .inl l
  .exact .inr ⟨k,c,e,cellK x c e _ z⟩
 .obtain⟨v,z⟩:=I.cell x c e;exact⟨v,cellK x c e v z⟩
 .obtain⟨m,⟨o,_,_,ho,_⟩,_⟩:=I.loc;exact free _ o (λz=>(uG _ z).2.1 rfl) ho I.free
 .obtain⟨v,o,ho,hd⟩:=I.cell x c e;exact free c o (λz=>(uG c z).2.2.1 x c e rfl) ho (I.freeC x c e)
 .obtain⟨e,n,ne,nf,d⟩:=I.pin p hp;have MJ:p.1∉ch:=λz=>(uG p.1 z).2.2.2 p hp rfl;exact⟨keep p.1 p.2 ne nf MJ e n,free p.1 p.2 MJ e n,ne,nf,d⟩
theorem Inv.un{t':Nat}(I:Inv X pins σ H s)(u:Un X.fs [] H H' s.heap h')(hok:lN X.prog X.w H' h'):Inv X pins σ H' {s with heap:=h',toks:=t'}:=by
 obtain⟨m,⟨o,es,ep,ho,r⟩,_⟩:=id I.loc;obtain⟨sl,hL⟩:=u.any ho I.free (by simp);exact I.step (g':=s.gens) (d':=s.drawn) (ch:=[]) (λ_ z=>nomatch z) (λb o _ hb _ e n=>u.keep b o e n hb (by simp)) (λb o _ hb _ e n=>u.slot b o e n hb (by simp)) (λb o _ e n=>u.free b o e n (by simp)) (λb o _ e=>u.there b o e (by simp)) u.tups u.frzs u.tbls (λm' hm=>by
  obtain⟨o',es',NX,CQ,r'⟩:=hm;rw[ho]at CQ;cases CQ;exact⟨_,es',NX,hL,r'⟩) hok I.bare
theorem Inv.call{g':Array GenState}{t':Nat}{d':Drawn}{ch:VT}(I:Inv X pins σ H s)(u:Un (rS X.stack) ch H H' s.heap h')(hok:lN X.prog X.w H' h')(hg:AllBare g')
  (uG:∀b∈ch,(b∈X.ex\/X.s₀.heap.objs.size<=b)/\b≠X.env.locals/\(∀x c,X.env.cells.lookup x=some c->c≠b)/\∀p∈X.pn++pins,p.1≠b) :
  Inv X pins σ H' {s with heap:=h',gens:=g',drawn:=d',toks:=t'}:=by
 obtain⟨m,⟨o,es,ep,ho,r⟩,_⟩:=id I.loc;obtain⟨sl,hL⟩:=u.any ho I.free λz=>(uG _ z).2.1 rfl;exact I.step (ch:=ch) uG (λb o hL hb hc e n=>u.keep b o e n (λz=>(o_.mp (I.stkSub b z)).elim hL hb) hc) (λb o _ _ hc e n=>u.any e n hc) (λb o hc e n=>u.free b o e n hc) (λb o hc e=>u.there b o e hc) u.tups u.frzs u.tbls (λm' hm=>by
  obtain⟨o',es',NX,CQ,r'⟩:=hm;rw[ho]at CQ;cases CQ;exact⟨_,es',NX,hL,r'⟩) hok hg
theorem Inv.turned{t':Nat}{it:V8}(I:Inv X pins σ H s)(k:∀b o,b≠it->s.heap.get? b=some o->h'.get? b=some o)(hn:H it=none)(hL:it≠X.env.locals)
  (h1:it∈X.ex\/X.s₀.heap.objs.size<=it) (h2:∀x c,X.env.cells.lookup x=some c->c≠it) (h3:∀p∈X.pn++pins,p.1≠it):Inv X pins σ H {s with heap:=h',toks:=t'}:=by
 have MK:∀b u,H b=some u->b≠it:=λb u e z=>by rw[z,hn]at e;cases e
 refine I.step (g':=s.gens) (d':=s.drawn) (ch:=[it]) (λb hb=>?_) (λb o _ _ hc e _=>k b o (λz=>hc (by simp[z])) e) (λb o _ _ hc e _=>⟨o.slots,k b o (λz=>hc (by simp[z])) e⟩) (λ_ _ _ _ n=>n)
  (λb o hc e=>⟨o,k b o (λz=>hc (by simp[z])) e⟩) (λ_ _ e=>e) (λ_ _ _ e=>e) (λ_ _ e=>e) (λm hm=>?_) (λb u e=>?_) I.bare
 .have e:b=it:=by simpa using hb
  subst e;exact⟨h1,hL,h2,h3⟩
 .obtain⟨o,es,ep,ho,r⟩:=hm;exact⟨o,es,ep,k _ o (SR hL) ho,r⟩
 .refine(I.hok b u e).stay (λc v hc q=>k c v ?_ q) (λ_ q=>q) (λ_ _ q=>q) λ_ _ q=>q;rcases hc with z | z
  .rw[z];exact MK b u e
  .exact MK c _ z
theorem Inv.tok(I:Inv X pins σ H s)(t:Nat):Inv X pins σ H {s with toks:=t}:=I.un (h':=s.heap) (t':=t) Un.refl I.hok
theorem Inv.kept{t':Nat}(I:Inv X pins σ H s)(k:∀b u,s.heap.get? b=some u->h'.get? b=some u):Inv X pins σ H {s with heap:=h',toks:=t'}:=I.un (Un.kept k) (I.hok.kept k)
theorem Inv.laid{a:V8}{o:HO}{t':Nat}(I:Inv X pins σ H s)(k:∀b u,s.heap.get? b=some u->h'.get? b=some u)(hp:s.heap.objs.size<=a)(new:bp X.prog X.w (upd H a o) h' a o) :
  Inv X pins σ (upd H a o) {s with heap:=h',toks:=t'}:=I.un (Un.laid k hp (I.hok.fresh hp)) (I.hok.laid k hp new)
theorem Inv.write{x e:V8}{o:HO}{t':Nat}(I:Inv X pins σ H s)(mu:NL (H x))(he:e=x\/H e=some (.own x))(k:∀b u,b≠e->s.heap.get? b=some u->h'.get? b=some u)(Kn:∃u,h'.get? e=some u)
  (new:bp X.prog X.w (upd H x o) h' x o):Inv X pins σ (upd H x o) {s with heap:=h',toks:=t'}:=I.un (Un.write mu he k Kn) (I.hok.write mu he k Kn new)
theorem Inv.pins_of{CT:VI}(I:Inv X pins σ H s)(h:∀p∈CT,s.heap.get? p.1=some p.2/\H p.1=none/\p.1≠X.env.locals/\p.1∉X.fs/\∀v,p.2.data≠.cell v):Inv X CT σ H s:=
 ⟨I.ok,I.os,I.bare,I.base,I.loc,I.cell,I.free,I.freeC,λp hp=>(O_.mp hp).elim (λz=>I.pin p (Ud _ z)) (h p),I.hok,I.len⟩
theorem uy{N:VS}(hN:N.Nodup){i j:Nat}{x:Str}(a:N[i]?=some x)(b:N[j]?=some x):i=j:=by
 obtain⟨h1,e1⟩:=s_.mp a;obtain⟨h2,e2⟩:=s_.mp b;exact(List.getElem_inj hN).mp (e1.trans e2.symm)
theorem j9{M:Model}{A:V3}{E:VH}{i:Nat}{x:Str}{v:V}{u:V0}{Q:Unit->V1->Prop}(I:Inv X pins σ H s)(hN:X.N.Nodup)(hi:X.N[i]?=some x)(hx:Loc X.env.scope x)(r:RelV v u)
  (h:∀s',Inv X pins (σ.set i (some v)) H s'->(∃a,Heap.SameBut a s.heap s'.heap/\(a=X.env.locals\/X.env.cells.lookup x=some a))->Q () s') (hf:X.fn x=true\/X.env.scope.names.lookup x=some .local:=by first | exact .inl rfl | exact .inr rfl | assumption):wpAny M A (storeName X.env x u) Q E s:=by
 obtain⟨m,hn,hl⟩:=id I.loc;have hcls:(X.env.scope.kind==.class||(X.env.scope.kind==.module&&X.env.locals != X.env.globals))=false:=by rw[I.ok.kind];rfl
 have Rb:i < σ.length:=by rw[I.len];exact(s_.mp hi).1
 have cne:=I.cne;have tracked:∀{a:V8}{h':V4},(∃o,s.heap.get? a=some o/\H a=none)->Heap.SameBut a s.heap h'->lN X.prog X.w H h':=λ{a h'} ha hs b ob e=>by
  obtain⟨_,_,GO⟩:=ha;refine(I.hok b ob e).stay (λc w' hc q=>(hs.2 c ?_).trans q) (λ_ q=>q) (λ_ _ q=>q) λ_ _ q=>q;rintro rfl;rcases hc with rfl | hc
  .rw[GO]at e;cases e
  .rw[GO]at hc;cases hc
 rcases hx with hk | hk
 .refine wpAny_storeName_local hk hn (λh' Pi hs=>?_) hcls;obtain⟨oL,_,_,hoL,_⟩:=id hn;refine h _ ⟨I.ok,I.os,I.bare,⟨λb o e n hb hx=>?_,λb o e n hb hx=>?_,I.base.free,λb o e hx=>?_,I.base.tups,I.base.frzs,I.base.tbls⟩,⟨_,Pi,λj y v' e1 e2 e3=>?_⟩,λy c e=>?_,I.free,I.freeC,λp hp=>?_,tracked ⟨oL,hoL,I.free⟩ hs,by simpa using I.len⟩ ⟨_,hs,.inl rfl⟩
  .exact(hs.2 b (w_ (N_ (r_ e) I.ok.above))).trans (I.base.keep b o e n hb hx)
  .obtain⟨sl,e1⟩:=I.base.slot b o e n hb hx;exact⟨sl,(hs.2 b (w_ (N_ (r_ e) I.ok.above))).trans e1⟩
  .obtain⟨o',e1⟩:=I.base.there b o e hx;exact⟨o',(hs.2 b (w_ (N_ (r_ e) I.ok.above))).trans e1⟩
  .by_cases hj:j=i
   .subst hj;rw[hi]at e1;cases e1;rw[A_ Rb]at e2;cases e2;exact⟨u,r,.inl ⟨hk,by simp⟩⟩
   .rw[n_ (SR hj)]at e2;obtain⟨u',r',q⟩:=hl j y v' e1 e2 e3;refine⟨u',r',?_⟩;rcases q with ⟨k,e⟩ | ⟨k,c,e,z⟩
    .refine .inl ⟨k,?_⟩;have:y≠x:=λe=>hj (uy hN e1 (e▸hi));simp[this,e]
    .exact .inr ⟨k,c,e,z.sameBut hs (cne y c e)⟩
  .obtain⟨w',z⟩:=I.cell y c e;exact⟨w',z.sameBut hs (cne y c e)⟩
  .obtain⟨e,n,ne,nf,d⟩:=I.pin p hp;exact⟨(hs.2 p.1 ne).trans e,n,ne,nf,d⟩
 .have NZ:X.fn x=true:=by
   rcases hf with z | z
   .exact z
   .rw[z]at hk;cases hk
  obtain⟨c,hc⟩:=I.ok.has x (.inl hk);obtain⟨w',z⟩:=I.cell x c hc;refine wpAny_storeName_cell I.ok.kind hk hc z (λh' hc' hs=>?_);obtain⟨oc,FO,hocd⟩:=id z;refine h {s with heap:=h'} ⟨I.ok,I.os,I.bare,⟨λb o e n hb hx=>?_,λb o e n hb hx=>?_,I.base.free,λb o e hx=>?_,I.base.tups,I.base.frzs,I.base.tbls⟩,⟨m,hn.sameBut hs (SR (cne x c hc)),λj y v' e1 e2 e3=>?_⟩,λy c' e=>?_,I.free,I.freeC,λp hp=>?_,tracked ⟨oc,FO,I.freeC x c hc⟩ hs,by simpa using I.len⟩ ⟨c,hs,.inr hc⟩
  .exact(hs.2 b (w_ (N_ (r_ e) (I.ok.cab x c NZ hc)))).trans (I.base.keep b o e n hb hx)
  .obtain⟨sl,e1⟩:=I.base.slot b o e n hb hx;exact⟨sl,(hs.2 b (w_ (N_ (r_ e) (I.ok.cab x c NZ hc)))).trans e1⟩
  .obtain⟨o',e1⟩:=I.base.there b o e hx;exact⟨o',(hs.2 b (w_ (N_ (r_ e) (I.ok.cab x c NZ hc)))).trans e1⟩
  .by_cases hj:j=i
   .subst hj;rw[hi]at e1;cases e1;rw[A_ Rb]at e2;cases e2;exact⟨u,r,.inr ⟨.inl hk,c,hc,hc'⟩⟩
   .rw[n_ (SR hj)]at e2;obtain⟨u',r',q⟩:=hl j y v' e1 e2 e3;refine⟨u',r',?_⟩;rcases q with q | ⟨k,c',e,z'⟩
    .exact .inl q
    .refine .inr ⟨k,c',e,z'.sameBut hs ?_⟩;rintro rfl;exact hj (uy hN e1 (I.ok.inj _ _ _ e hc▸hi))
  .by_cases zQ:c'=c
   .subst zQ;exact⟨_,hc'⟩
   .obtain⟨w2,z2⟩:=I.cell y c' e;exact⟨w2,z2.sameBut hs zQ⟩
  .obtain⟨e,n,ne,nf,d⟩:=I.pin p hp;refine⟨(hs.2 p.1 ?_).trans e,n,ne,nf,d⟩;intro q;rw[q,FO]at e;have q':oc=p.2:=Option.some.inj e;exact d w' (by rw[<- q'];exact hocd)
theorem gR{M:Model}{A:V3}{E:VH}{i:Nat}{x:Str}{v:V}{u:V0}{Q:Unit->V1->Prop}(I:Inv X pins σ H s)(hN:X.N.Nodup)(hi:X.N[i]?=some x)(hx:Loc X.env.scope x)(r:RelV v u)
  (h:∀s',Inv X pins (σ.set i (some v)) H s'->Q () s') (hf:X.fn x=true\/X.env.scope.names.lookup x=some .local:=by first | exact .inl rfl | exact .inr rfl | assumption):wpAny M A (storeName X.env x u) Q E s:=
 j9 I hN hi hx r (λs' I' _=>h s' I') hf
theorem Inv.call'{s':V1}{ch:VT}(I:Inv X pins σ H s)(ho:s'.os=s.os)(u:Un (rS X.stack) ch H H' s.heap s'.heap)(hok:lN X.prog X.w H' s'.heap)(hg:AllBare s'.gens)
  (uG:∀b∈ch,(b∈X.ex\/X.s₀.heap.objs.size<=b)/\b≠X.env.locals/\(∀x c,X.env.cells.lookup x=some c->c≠b)/\∀p∈X.pn++pins,p.1≠b):Inv X pins σ H' s':=by
 obtain⟨h',g',d',t',o'⟩:=s';have e:o'=s.os:=ho;subst e;exact I.call (g':=g') (t':=t') (d':=d') u hok hg uG
end
abbrev XK:=V0->VR->Hp->Prop
abbrev St:=List (Option V)
abbrev VK:=V->Hp->Prop
abbrev TE:=St->Hp->VK->Prop
abbrev TT:=St->Hp->(Bool->Hp->Prop)->Prop
abbrev TA:=St->Hp->(Wh->Hp->Prop)->Prop
structure Ends where
 nx:St->Hp->Prop
 rt:VK
 bk:St->Hp->Prop:=λ_ _=>False
 ct:St->Hp->Prop:=λ_ _=>False
abbrev TS:=Ends->St->Hp->Prop
def EP(X:Cx)(pins:VI)(σ:St)(Q:VK)(u:V0)(s':V1):Prop:=∃v H',Inv X pins σ H' s'/\RelV v u/\Q v H'
def TP(X:Cx)(pins:VI)(σ:St)(Q:Bool->Hp->Prop)(b:Bool)(s':V1):Prop:=∃H',Inv X pins σ H' s'/\Q b H'
def AP(X:Cx)(pins:VI)(σ:St)(Q:Wh->Hp->Prop)(us:VP)(s':V1):Prop:=∃vs H',Inv X pins σ H' s'/\aw vs us/\Q vs H'
def SP(X:Cx)(pins:VI)(D:Ends)(f:Flow)(s':V1):Prop:=
 match f with
 | .next=>∃σ' H',Inv X pins σ' H' s'/\D.nx σ' H'
 | .brk=>∃σ' H',Inv X pins σ' H' s'/\D.bk σ' H'
 | .cont=>∃σ' H',Inv X pins σ' H' s'/\D.ct σ' H'
 | .ret u=>∃v σ' H',Inv X pins σ' H' s'/\RelV v u/\D.rt v H'
def PE(X:Cx)(e:V9)(t:TE):Prop:=
 ∀(pins:VI)(s:V1)(σ:St)(H:Hp)(Q:VK),Inv X pins σ H s->t σ H Q->wpAny (model X.prog X.w) X.A (eval e X.env) (EP X pins σ Q) X.xe s
def PT(X:Cx)(e:V9)(t:TT):Prop:=
 ∀(pins:VI)(s:V1)(σ:St)(H:Hp)(Q:Bool->Hp->Prop),Inv X pins σ H s->t σ H Q->wpAny (model X.prog X.w) X.A (isTrue e X.env (eval e X.env)) (TP X pins σ Q) X.xe s
def PW(X:Cx)(e:V9)(t:TT):Prop:=
 ∀(whole:Sem V0)(pins:VI)(s:V1)(σ:St)(H:Hp)(Q:Bool->Hp->Prop),Inv X pins σ H s->t σ H Q->wpAny (model X.prog X.w) X.A (isTrue e X.env whole) (TP X pins σ Q) X.xe s
theorem PW.pt{X:Cx}{e:V9}{t:TT}(h:PW X e t):PT X e t:=h _
def PA(X:Cx)(es:VU)(t:TA):Prop:=
 ∀(pos:Pos)(pins:VI)(s:V1)(σ:St)(H:Hp)(Q:Wh->Hp->Prop),Inv X pins σ H s->t σ H Q->wpAny (model X.prog X.w) X.A (spliced (backTo pos (starEach es X.env))) (AP X pins σ Q) X.xe s
def PS(X:Cx)(st:V_)(t:TS):Prop:=
 ∀(pins:VI)(s:V1)(σ:St)(H:Hp)(D:Ends),Inv X pins σ H s->t D σ H->wpAny (model X.prog X.w) X.A (exec st X.env) (SP X pins D) X.xe s
def iG(X:Cx)(st:VV)(t:TS):Prop:=
 ∀(pins:VI)(s:V1)(σ:St)(H:Hp)(D:Ends),Inv X pins σ H s->t D σ H->wpAny (model X.prog X.w) X.A (execs st X.env) (SP X pins D) X.xe s
theorem bB{α:Type}{t:Sem α}{Q Q':α->V1->Prop}{M:Model}{A:V3}{E:VH}{s:V1}(h:wpAny M A t Q E s)(hQ:∀a s,Q a s->Q' a s):wpAny M A t Q' E s:=Sx h hQ λ_ _ x=>x
section
variable {X:Cx}
def Ln(i:Nat):TE:=λσ H Q=>∃v,σ[i]?=some (some v)/\Q v H
def tC(v:V):TE:=λ_ H Q=>Q v H
theorem cF{i:Nat}{x:Str}{pos:Pos}(hN:X.N[i]?=some x)(hv:qP X.env.scope x)(hd:(x==("__debug__":Str))=false:=by decide)(eM:(x==("__classdict__":Str))=false:=by decide):PE X (.Name x pos) (Ln i):=by
 intro pins s σ H Q I h;obtain⟨v,e,h⟩:=h;obtain⟨m,hn,hl⟩:=I.loc;obtain⟨u,r,l⟩:=hl i x v hN e hv;have fin:EP X pins σ Q u s:=⟨v,H,I,r,h⟩;rcases l with ⟨hk,hm⟩ | ⟨hk,c,hc,xQ⟩
 .exact wpAny_Name (wpAny_loadName_local I.ok.kind hk hn hm fin) hd
 .rcases hk with hk | hk
  .exact wpAny_Name (wpAny_loadName_cell I.ok.kind hk hc xQ fin) hd
  .exact wpAny_Name (wpAny_loadName_free I.ok.kind hk hc xQ fin eM) hd
theorem IK{i j pos}:PE X (.Constant (.int i) j pos) (tC (.int i)):=λ_ _ _ H _ I h=>wpAny_Constant_int ⟨.int i,H,I.tok _,⟨_,rfl⟩,h⟩
theorem MB{b j pos}:PE X (.Constant (.bool b) j pos) (tC (.bl b)):=λ_ _ _ H _ I h=>Constant_bool ⟨.bl b,H,I,rfl,h⟩
theorem IA{x j pos}:PE X (.Constant (.str x) j pos) (tC (.str x)):=λ_ _ _ H _ I h=>Calls.Constant_str ⟨.str x,H,I.tok _,⟨_,rfl⟩,h⟩
def Gl(X:Cx)(x:Str):Prop:=X.env.kindOf x=some .globalImplicit
theorem qR{E:VH}{pins:VI}{s:V1}{σ:St}{H:Hp}{x:Str}{u:V0}{pos:Pos}{Q:VH}(I:Inv X pins σ H s)(hg:Gl X x)(hm:X.mg x=some u)(h:Q u s)
  (hd:(x==("__debug__":Str))=false:=by decide):wpAny (model X.prog X.w) X.A (eval (.Name x pos) X.env) Q E s:=
 Calls.Name_function_global I.ok.kind hg (Calls.loadGlobal_global (by rw[I.ok.glob];exact I.mod.glob.keeps I.bk) hm h) hd
theorem jg{E:VH}{pins:VI}{s:V1}{σ:St}{H:Hp}{x:Str}{u:V0}{pos:Pos}{Q:VH}(I:Inv X pins σ H s)(hg:Gl X x)(hm:X.mg x=none)(hv:bootBuiltins x=some u)(h:Q u s)
  (hn:x≠"__name__":=by decide) (hd:(x==("__debug__":Str))=false:=by decide):wpAny (model X.prog X.w) X.A (eval (.Name x pos) X.env) Q E s:=by
 obtain⟨mb,h1,h2⟩:=I.mod.blt;exact Calls.Name_function_global I.ok.kind hg (Calls.loadGlobal_builtin (by rw[I.ok.glob];exact I.mod.glob.keeps I.bk) hm (by rw[I.ok.blt];exact h1.keeps I.bk) ((h2 x hn).trans hv) h) hd
theorem D8{x:Str}{v:V}{u:V0}{pos:Pos}(hg:Gl X x)(hm:X.mg x=some u)(r:RelV v u)(hd:(x==("__debug__":Str))=false:=by decide):PE X (.Name x pos) (tC v):=
 λ_ _ _ H _ I h=>qR I hg hm ⟨v,H,I,r,h⟩ hd
theorem D7{x:Str}{v:V}{u:V0}{pos:Pos}(hg:Gl X x)(hm:X.mg x=none)(hv:bootBuiltins x=some u)(r:RelV v u)(hn:x≠"__name__":=by decide)(hd:(x==("__debug__":Str))=false:=by decide):PE X (.Name x pos) (tC v):=
 λ_ _ _ H _ I h=>jg I hg hm hv ⟨v,H,I,r,h⟩ hn hd
variable {a b:V9}{ta tb:TE}{pos:Pos}
def tB(t:TE):TT:=λσ H Q=>t σ H λx H1=>∃c,x=.bl c/\Q c H1
theorem IG{e:V9}{t:TE}(h:PE X e t)(he:∀whole,isTrue e X.env whole=(do let v <- whole;standAt e.pos;holding [v] (truthy v)):=by intro _;rfl):PT X e (tB t):=by
 intro pins s σ H Q I hw;refine isTrue_plain (bB (h pins s σ H _ I hw) λv s1 az=>?_) (he _);obtain⟨x,H1,I1,r1,q1⟩:=az;obtain⟨d,rfl,q⟩:=q1;cases r1;exact SG ⟨H1,I1,q⟩
variable {tA tB':TT}{rest:VU}
def OC(t u:TT):TT:=λσ H Q=>t σ H λc H1=>if c=true then u σ H1 Q else Q false H1
def Se(t u:TT):TT:=λσ H Q=>t σ H λc H1=>if c=true then Q true H1 else u σ H1 Q
def OB(t:TT):TT:=λσ H Q=>t σ H λc H1=>Q (!c) H1
theorem ED(ha:PT X a tA):PW X (.BoolOp .And [a] pos) tA:=by
 intro wh pins s σ H Q I h;refine isTrue_and (bB (ha pins s σ H Q I h) λc s1 e=>?_);cases c with
 | true=>exact isTrue_and_nil e
 | false=>exact e
theorem Ic(ha:PT X a tA):PW X (.BoolOp .Or [a] pos) tA:=by
 intro wh pins s σ H Q I h;refine isTrue_or (bB (ha pins s σ H Q I h) λc s1 e=>?_);cases c with
 | false=>exact isTrue_or_nil e
 | true=>exact e
theorem HZ(ha:PT X a tA)(hb:PW X (.BoolOp .And (b::rest) pos) tB'):PW X (.BoolOp .And (a::b::rest) pos) (OC tA tB'):=by
 intro wh pins s σ H Q I h;refine isTrue_and (bB (ha pins s σ H _ I h) λc s1 az=>?_);obtain⟨H1,I1,q1⟩:=az;cases c with
 | true=>exact hb wh pins s1 σ H1 Q I1 q1
 | false=>exact⟨H1,I1,q1⟩
theorem K8(ha:PT X a tA)(hb:PW X (.BoolOp .Or (b::rest) pos) tB'):PW X (.BoolOp .Or (a::b::rest) pos) (Se tA tB'):=by
 intro wh pins s σ H Q I h;refine isTrue_or (bB (ha pins s σ H _ I h) λc s1 az=>?_);obtain⟨H1,I1,q1⟩:=az;cases c with
 | true=>exact⟨H1,I1,q1⟩
 | false=>exact hb wh pins s1 σ H1 Q I1 q1
theorem II(ha:PT X a tA):PT X (.UnaryOp .Not a pos) (OB tA):=by
 intro pins s σ H Q I h;exact isTrue_not (ha pins s σ H (λc H1=>Q (!c) H1) I h)
def Mo(ta tb:TE):TE:=λσ H Q=>ta σ H λx H1=>∃c,x=.bl c/\if c=true then tb σ H1 Q else Q (.bl false) H1
def LU(ta:TE):TE:=λσ H Q=>ta σ H λx H1=>∃c,x=.bl c/\Q (.bl (!c)) H1
theorem IX{op}{t:TE}(h:PE X a t):PE X (.BoolOp op [a] pos) t:=λpins s σ H Q I hw=>BoolOp_one (h pins s σ H Q I hw)
theorem G4(ha:PE X a ta)(hb:PE X (.BoolOp .And (b::rest) pos) tb):PE X (.BoolOp .And (a::b::rest) pos) (Mo ta tb):=by
 intro pins s σ H Q I h;refine BoolOp_and (bB (ha pins s σ H _ I h) λv s1 az=>?_);obtain⟨x,H1,I1,r1,q1⟩:=az;obtain⟨c,rfl,q1⟩:=q1;cases r1;refine SG ?_;cases c with
 | true=>exact hb pins s1 σ H1 Q I1 q1
 | false=>exact⟨.bl false,H1,I1,rfl,q1⟩
theorem Ja(ha:PE X a ta):PE X (.UnaryOp .Not a pos) (LU ta):=by
 intro pins s σ H Q I h;refine UnaryOp_ (bB (ha pins s σ H _ I h) λv s1 az=>?_);obtain⟨x,H1,I1,r1,q1⟩:=az;obtain⟨c,rfl,q1⟩:=q1;cases r1;exact not_of (SG ⟨.bl (!c),H1,I1,rfl,q1⟩)
def RL(t:TT)(ta tb:TE):TE:=λσ H Q=>t σ H λc H1=>if c=true then ta σ H1 Q else tb σ H1 Q
theorem Bh{c:V9}(hc:PT X c tA)(ha:PE X a ta)(hb:PE X b tb):PE X (.IfExp c a b pos) (RL tA ta tb):=by
 intro pins s σ H Q I h;refine wpAny_IfExp (bB (hc pins s σ H _ I h) λd s1 az=>?_);obtain⟨H1,I1,q1⟩:=az;cases d with
 | true=>exact ha pins s1 σ H1 Q I1 q1
 | false=>exact hb pins s1 σ H1 Q I1 q1
end
def cW(K:VZ)(H:Hp)(a:V8)(xs:Wh):Prop:=
 Rd H a (.lst xs)\/
  ∃(o:Obj)(bu:Array V0)(n:Nat),K.lookup a=some o/\o.cls=.type "list"/\o.dict=none/\o.data=.seq bu n/\bu.size<=sizeLine/\aw xs bu.toList
def c7(K:VZ)(H:Hp)(a:V8)(xs:Wh):Prop:=
 Rd H a (.tup xs)\/
  ∃(o:Obj)(bu:Array V0)(n:Nat),K.lookup a=some o/\o.cls=.type "tuple"/\o.data=.seq bu n/\bu.size<=sizeLine/\aw xs bu.toList
def OQ:V0->Option V
 | .none=>some .non
 | .bool b=>some (.bl b)
 | .int i _=>some (.int i)
 | .str x _=>some (.str x)
 | .bytes b _=>some (.byt b)
 | .float b _=>some (.flt b)
 | .ref a=>some (.ref a)
 | .type n=>some (.ty n)
 | _=>none
theorem RelV.abs{x:V}{u:V0}(r:RelV x u):OQ u=some x:=by
 cases x with
 | non=>cases r;rfl
 | bl _=>cases r;rfl
 | int _=>obtain⟨t,rfl⟩:=r;rfl
 | str _=>obtain⟨t,rfl⟩:=r;rfl
 | byt _=>obtain⟨t,rfl⟩:=r;rfl
 | flt _=>obtain⟨t,rfl⟩:=r;rfl
 | ref _=>cases r;rfl
 | ty _=>cases r;rfl
theorem RelV.inj{x y:V}{u:V0}(r:RelV x u)(q:RelV y u):x=y:=Option.some.inj (r.abs.symm.trans q.abs)
theorem aw.inj:∀{xs ys:Wh}{us:VP},aw xs us->aw ys us->xs=ys
 | _,_,_,.nil,.nil=>rfl
 | _,_,_,.cons r t,.cons r' t'=>by rw[r.inj r',aw.inj t t']
section
variable {X:Cx}{pins:VI}{σ:St}{H:Hp}{s:V1}{a:V8}{xs ys:Wh}
theorem cW.of{K:VZ}(h:H a=some (.lst xs)):cW K H a xs:=.inl (.inl h)
theorem c7.of{K:VZ}(h:H a=some (.tup xs)):c7 K H a xs:=.inl (.inl h)
theorem Inv.list(I:Inv X pins σ H s)(h:cW X.K H a xs):∃bu:VP,aw xs bu/\PlainL s.heap a bu.toArray/\xs.length<=sizeLine:=by
 rcases h with h | ⟨o,bu,n,hk,hc,hd,hs,hz,r⟩
 .obtain⟨z,bu,n,r,e⟩:=h.ok I.hok;exact⟨bu,r,⟨_,n,e,rfl,rfl,rfl⟩,z⟩
 .refine⟨bu.toList,r,⟨o,n,I.kIn a o hk,hc,hd,by simpa using hs⟩,?_⟩;have e:=r.length;simp only[SC]at e
  lia
theorem Inv.tuple(I:Inv X pins σ H s)(h:c7 X.K H a xs):∃bu:VP,aw xs bu/\IsTup s.heap a bu.toArray/\xs.length<=sizeLine:=by
 rcases h with h | ⟨o,bu,n,hk,hc,hs,hz,r⟩
 .obtain⟨z,bu,r,p⟩:=h.ok I.hok;exact⟨bu,r,p,z⟩
 .refine⟨bu.toList,r,⟨o,I.kIn a o hk,hc,n,by simpa using hs⟩,?_⟩;have e:=r.length;simp only[SC]at e
  lia
theorem Inv.list_inj(I:Inv X pins σ H s)(h:cW X.K H a xs)(h':cW X.K H a ys):xs=ys:=by
 obtain⟨bu,r,⟨o,n,e,_,_,d⟩,_⟩:=I.list h;obtain⟨its',r',⟨o',n',e',_,_,d'⟩,_⟩:=I.list h';rw[e]at e';cases e';rw[d]at d'
 injection d' with d1 _
 have:bu=its':=by simpa using S0 Array.toList d1
 subst this;exact r.inj r'
theorem Inv.tuple_inj(I:Inv X pins σ H s)(h:c7 X.K H a xs)(h':c7 X.K H a ys):xs=ys:=by
 obtain⟨bu,r,⟨o,e,_,n,d⟩,_⟩:=I.tuple h;obtain⟨its',r',⟨o',e',_,n',d'⟩,_⟩:=I.tuple h';rw[e]at e';cases e';rw[d]at d'
 injection d' with d1 _
 have:bu=its':=by simpa using S0 Array.toList d1
 subst this;exact r.inj r'
end
abbrev Cx.wish(X:Cx)(E:VH):Cx:={X with xe:=E}
abbrev Cx.nox(X:Cx):Cx:=X.wish λ_ _=>False
theorem Cx.Ok.wish{X:Cx}(ok:X.Ok)(E:VH):(X.wish E).Ok:=
 ⟨ok.mod,ok.kind,ok.glob,ok.blt,ok.above,ok.inj,ok.has,ok.cab,ok.hd,ok.frames,ok.stk,ok.exf,ok.bs,ok.bsz,ok.noex,ok.exfs,ok.funs,ok.frf,ok.tb⟩
theorem Cx.Ok.unwish{X:Cx}{E:VH}(ok:(X.wish E).Ok):X.Ok:=
 ⟨ok.mod,ok.kind,ok.glob,ok.blt,ok.above,ok.inj,ok.has,ok.cab,ok.hd,ok.frames,ok.stk,ok.exf,ok.bs,ok.bsz,ok.noex,ok.exfs,ok.funs,ok.frf,ok.tb⟩
section
variable {X:Cx}{pins:VI}{σ:St}{H:Hp}{s:V1}{E:VH}
theorem Inv.wish(I:Inv X pins σ H s)(E:VH):Inv (X.wish E) pins σ H s:=⟨I.ok.wish E,I.os,I.bare,I.base,I.loc,I.cell,I.free,I.freeC,I.pin,I.hok,I.len⟩
theorem Inv.unwish(I:Inv (X.wish E) pins σ H s):Inv X pins σ H s:=⟨I.ok.unwish,I.os,I.bare,I.base,I.loc,I.cell,I.free,I.freeC,I.pin,I.hok,I.len⟩
theorem SP.unwish{D:Ends}{f:Flow}{s':V1}(h:SP (X.wish E) pins D f s'):SP X pins D f s':=by
 cases f with
 | next=>obtain⟨σ',H',I,q⟩:=h;exact⟨σ',H',I.unwish,q⟩
 | brk=>obtain⟨σ',H',I,q⟩:=h;exact⟨σ',H',I.unwish,q⟩
 | cont=>obtain⟨σ',H',I,q⟩:=h;exact⟨σ',H',I.unwish,q⟩
 | ret u=>obtain⟨v,σ',H',I,r,q⟩:=h;exact⟨v,σ',H',I.unwish,r,q⟩
theorem iG.nox{st:VV}{t:TS}(h:iG X.nox st t):iG X st t:=λpins s σ H D I hw=>
 Sx (h pins s σ H D (I.wish _) hw) (λ_ _ q=>q.unwish) λ_ _ z=>False.elim z
end
section
variable {X:Cx}{st:V_}{rest:VV}{t u:TS}{e:V9}{te:TE}{pos:Pos}
def tNext:TS:=λD σ H=>D.nx σ H
def Mq(t u:TS):TS:=λD σ H=>t {D with nx:=u D} σ H
theorem w8:iG X [] tNext:=λ_ _ σ H _ I h=>wpAny_execs_nil ⟨σ,H,I,h⟩
theorem er(h1:PS X st t)(h2:iG X rest u):iG X (st::rest) (Mq t u):=by
 intro pins s σ H D I h;refine wpAny_execs_cons (bB (h1 pins s σ H {D with nx:=u D} I h) λf s1 q=>?_);cases f with
 | next=>
  obtain⟨σ',H',I',q⟩:=q;exact h2 pins s1 σ' H' D I' q
 | ret v=>exact q
 | brk=>exact q
 | cont=>exact q
theorem pX(h1:PS X st t):iG X [st] t:=by
 intro pins s σ H D I h;refine wpAny_execs_cons (bB (h1 pins s σ H D I h) λf s1 q=>?_);cases f with
 | next=>exact wpAny_execs_nil q
 | ret v=>exact q
 | brk=>exact q
 | cont=>exact q
theorem Inv.quiet{pins:VI}{σ:St}{H:Hp}{s:V1}(I:Inv X pins σ H s):interactive X.env=false:=by simp[interactive,I.ok.kind]
def K3(te:TE):TS:=λD σ H=>te σ H λ_ H1=>D.nx σ H1
theorem fR(he:PE X e te)(hs:swapsWith e none pos.line X.env=pure false:=by rfl):PS X (.Expr e pos) (K3 te):=by
 intro pins s σ H D I h;exact wpAny_Expr_any (bB (he pins s σ H _ I h) λv s1 ⟨x,H1,I1,r1,q1⟩=>⟨σ,H1,I1,q1⟩) I.quiet hs
def KY(te:TE):TS:=λD σ H=>te σ H D.rt
theorem mo(he:PE X e te):PS X (.Return (some e) pos) (KY te):=by
 intro pins s σ H D I h;exact wpAny_Return_some (bB (he pins s σ H _ I h) λv s1 ⟨x,H1,I1,r1,q1⟩=>⟨x,σ,H1,I1,r1,q1⟩)
def OO(c:TT)(t u:TS):TS:=λD σ H=>c σ H λb H1=>if b=true then t D σ H1 else u D σ H1
theorem LM{c:V9}{a b:VV}{tc:TT}(hc:PT X c tc)(ha:iG X a t)(hb:iG X b u):PS X (.If c a b pos) (OO tc t u):=by
 intro pins s σ H D I h;refine wpAny_If (bB (hc pins s σ H _ I h) λd s1 az=>?_);obtain⟨H1,I1,q1⟩:=az;cases d with
 | true=>exact ha pins s1 σ H1 D I1 q1
 | false=>exact hb pins s1 σ H1 D I1 q1
end
abbrev TG:=V->St->Hp->(St->Hp->Prop)->Prop
abbrev TGs:=Wh->St->Hp->(St->Hp->Prop)->Prop
def PG(X:Cx)(target:V9)(t:TG):Prop:=
 ∀(pins:VI)(s:V1)(σ:St)(H:Hp)(v:V)(u:V0)(Q:St->Hp->Prop),Inv X pins σ H s->RelV v u->t v σ H Q->
  wpAny (model X.prog X.w) X.A (assign target X.env u) (λ_ s'=>∃σ' H',Inv X pins σ' H' s'/\Q σ' H') X.xe s
def y7(X:Cx)(ts:VU)(t:TGs):Prop:=
 ∀(pins:VI)(s:V1)(σ:St)(H:Hp)(vs:Wh)(us:VP)(Q:St->Hp->Prop),Inv X pins σ H s->aw vs us->t vs σ H Q->
  wpAny (model X.prog X.w) X.A (assignInOrder ((assignEach ts X.env).map (·.2)) us) (λ_ s'=>∃σ' H',Inv X pins σ' H' s'/\Q σ' H') X.xe s
abbrev TIp:=V->V->Hp->VK->Prop
def QP(X:Cx)(op:Operator)(t:TIp):Prop:=
 ∀(pins:VI)(s:V1)(σ:St)(H:Hp)(x y:V)(v u:V0)(Q:VK),Inv X pins σ H s->RelV x v->RelV y u->t x y H Q->
  wpAny (model X.prog X.w) X.A (inplaceOp op v u) (EP X pins σ Q) X.xe s
section
variable {X:Cx}{pos:Pos}
def lU(i:Nat):TG:=λv σ H Q=>Q (σ.set i (some v)) H
theorem lD{i:Nat}{x:Str}(hN:X.N.Nodup)(hi:X.N[i]?=some x)(hx:Loc X.env.scope x)(hf:X.fn x=true\/X.env.scope.names.lookup x=some .local:=by first | exact .inl rfl | exact .inr rfl | assumption):PG X (.Name x pos) (lU i):=by
 intro pins s σ H v u Q I r h;exact Vm (gR I hN hi hx r (λs' I'=>⟨_,H,I',h⟩) hf)
def gNil:TGs:=λvs σ H Q=>vs=[]/\Q σ H
def Gz(t:TG)(u:TGs):TGs:=λvs σ H Q=>∃v r,vs=v::r/\t v σ H λσ' H'=>u r σ' H' Q
theorem DY:y7 X [] gNil:=by
 intro pins s σ H vs us Q I r h;obtain⟨e,h⟩:=h;subst e;cases r;exact assignInOrder_nil ⟨σ,H,I,h⟩
theorem tJ{e:V9}{es:VU}{t:TG}{u:TGs}(h1:PG X e t)(h2:y7 X es u)
  (hs:(assignEach (e::es) X.env).map (·.2)=assign e X.env::(assignEach es X.env).map (·.2):=by rfl):y7 X (e::es) (Gz t u):=by
 intro pins s σ H vs us Q I r h;obtain⟨v,vr,e1,h⟩:=h;subst e1;cases r with
 | cons r rr=>
  rw[hs];refine Uz (bB (h1 pins s σ H _ _ _ I r h) λ_ s1 az=>?_);obtain⟨σ1,H1,I1,q1⟩:=az;exact h2 pins s1 σ1 H1 _ _ Q I1 rr q1
def Ol(K:VZ)(n:Nat)(t:TGs):TG:=λv σ H Q=>∃a xs,v=.ref a/\c7 K H a xs/\xs.length=n/\t xs σ H Q
theorem G1{es:VU}{k:Nat}{t:TGs}{n:Nat}(hc:X.calm=true)(h:y7 X es t)
  (hn:(assignEach es X.env).length=n:=by rfl) (hst:(assignEach es X.env).findIdx? (·.1)=none:=by rfl):PG X (.Tuple es k pos) (Ol X.K n t):=by
 intro pins s σ H v u Q I r hw;obtain⟨a,xs,e1,hq,hl,hw⟩:=hw;subst e1;cases r;obtain⟨bu,rv,ht,hz⟩:=I.tuple hq;refine assign_Tuple_tuple (I.ok.hd hc) ht (by simp[hn,<- hl,rv.length]) hst λh' hx=>?_;have I1:Inv X pins σ H {s with heap:=h'}:=I.kept (t':=s.toks) λb o e=>hx b o (w_ (r_ e)) e;exact h pins _ σ H xs _ Q I1 (by simpa using rv) hw
def vE(te:TE)(g:TG):TS:=λD σ H=>te σ H λx H1=>g x σ H1 D.nx
theorem uU{tg e:V9}{te:TE}{g:TG}(he:PE X e te)(hg:PG X tg g)(hs:swapsWithSole [tg] e pos.line X.env=pure false:=by rfl)(hw:swappedStores [tg] e X.env=pure none:=by rfl)
  (h1:(assignEach [tg] X.env).map (·.2)=[assign tg X.env]:=by rfl):PS X (.Assign [tg] e pos) (vE te g):=by
 intro pins s σ H D I h;refine wpAny_Assign_stores (bB (he pins s σ H _ I h) λv s1 az=>?_) hs hw;obtain⟨x,H1,I1,r1,q1⟩:=az;rw[h1];exact bB (hg pins s1 σ H1 x v _ I1 r1 q1) λ_ s2 q=>q
theorem jY{i:Nat}{x:Str}{e:V9}{te:TE}{pos':Pos}(hN:X.N.Nodup)(hi:X.N[i]?=some x)(hx:Loc X.env.scope x)(he:PE X e te)(hs:swapsWith e (some (.Name x pos')) pos.line X.env=pure false:=by rfl)(hf:X.fn x=true\/X.env.scope.names.lookup x=some .local:=by first | exact .inl rfl | exact .inr rfl | assumption) :
  PS X (.Assign [.Name x pos'] e pos) (vE te (lU i)):=by
 intro pins s σ H D I h;refine wpAny_Assign_Name (bB (he pins s σ H _ I h) λv s1 az=>?_) hs;obtain⟨y,H1,I1,r1,q1⟩:=az;exact gR I1 hN hi hx r1 (λs2 I2=>⟨_,H1,I2,q1⟩) hf
def OE(i j:Nat)(ta:TA):TS:=λD σ H=>ta σ H λvs H1=>∃v w,vs=[v,w]/\D.nx ((σ.set i (some v)).set j (some w)) H1
theorem HE{i j:Nat}{x y:Str}{a b:V9}{ta:TA}{px py pt:Pos}{kt k2 pt2}(hc:X.calm=true)(hN:X.N.Nodup)(hi:X.N[i]?=some x)(hj:X.N[j]?=some y)(ML:i≠j)
  (hx:X.env.scope.names.lookup x=some .local) (hy:X.env.scope.names.lookup y=some .local) (ha:PA X [a,b] ta)
  (hw:swappedStores [.Tuple [.Name x px,.Name y py] kt pt] (.Tuple [a,b] k2 pt2) X.env=pure (some [x,y]))
  (hs:swapsWithSole [.Tuple [.Name x px,.Name y py] kt pt] (.Tuple [a,b] k2 pt2) pos.line X.env=pure false:=by rfl) :
  PS X (.Assign [.Tuple [.Name x px,.Name y py] kt pt] (.Tuple [a,b] k2 pt2) pos) (OE i j ta):=by
 intro pins s σ H D I h;rw[exec_Assign_arm];refine b_ (SI ?_);rw[hs];refine b_ (g_ ?_);rw[j_ (by decide)];refine b_ (Tuple_ (bB (ha _ pins s σ H _ I h) λus s1 az=>?_));obtain⟨vs,H1,I1,r1,q1⟩:=az;obtain⟨v,w,e1,q1⟩:=q1;subst e1;obtain⟨u1,u2,rfl,rv,Jv⟩:∃u1 u2,us=[u1,u2]/\RelV v u1/\RelV w u2:=by
  cases r1 with
  | cons p q=>
   cases q with
   | cons p' q'=>
    cases q';exact⟨_,_,rfl,p,p'⟩
 refine SH ?_ (by show 2<=sizeLine;decide);have I2:Inv X pins σ H1 {s1 with heap:=s1.heap.push {cls:=.type "tuple",data:=.seq [u1,u2].toArray}}:=I1.kept (t':=s1.toks) λb o e=>e_ _ e;rw[hw];refine b_ (g_ ?_);show wpAny (model X.prog X.w) X.A (do rule "assign.swapped-stores";let items <- unpackItems (.ref s1.heap.objs.size) 2 none;assignInOrder [λv=>bindName X.env y v,λv=>bindName X.env x v] items.reverse;pure Flow.next) _ _ _;refine b_ (Vb (b_ (unpackItems_tuple (items:=#[u1,u2]) (I.ok.hd hc) (IsTup.new s1.heap _) λh' nF=>?_)));have I3:=I2.kept (h':=h') (t':=s1.toks) λb o e=>nF b o (w_ (r_ e)) e;show wpAny _ _ (assignInOrder [λv=>bindName X.env y v,λv=>bindName X.env x v] [u2,u1] >>= λ_=>pure Flow.next) _ _ _;refine b_ (Uz (wpAny_bindName (gR I3 hN hj (.inl hy) Jv (λs2 I4=>?_) (.inr hy))));refine Uz (wpAny_bindName (gR I4 hN hi (.inl hx) rv (λs3 I5=>assignInOrder_nil (g_ ?_)) (.inr hx)));rw[List.set_comm _ _ (SR ML)]at I5;exact⟨_,H1,I5,q1⟩
def OG(i:Nat)(te:TE)(ti:TIp):TS:=λD σ H=>∃x,σ[i]?=some (some x)/\te σ H λy H1=>ti x y H1 λz H2=>D.nx (σ.set i (some z)) H2
theorem IJ{i:Nat}{x:Str}{e:V9}{te:TE}{op:Operator}{ti:TIp}{pos':Pos}(hN:X.N.Nodup)(hi:X.N[i]?=some x)(hx:Loc X.env.scope x)(he:PE X e te)(ho:QP X op ti)(hf:X.fn x=true\/X.env.scope.names.lookup x=some .local:=by first | exact .inl rfl | exact .inr rfl | assumption) :
  PS X (.AugAssign (.Name x pos') op e pos) (OG i te ti):=by
 intro pins s σ H D I h;obtain⟨v,e1,h⟩:=h;obtain⟨m,hn,hl⟩:=I.loc;have vis:qP X.env.scope x:=by rcases hx with k | k;exact .inl k;exact .inr (.inl k)
 obtain⟨u,r,l⟩:=hl i x v hi e1 vis;refine wpAny_AugAssign_Name ?_;have go:wpAny (model X.prog X.w) X.A (eval e X.env) (λw s₂=>wpAny (model X.prog X.w) X.A (inplaceOp op u w) (λr s₃=>wpAny (model X.prog X.w) X.A (storeName X.env x r) (λ_=>SP X pins D .next) X.xe s₃) X.xe s₂) X.xe s:=by
  refine bB (he pins s σ H _ I h) λw s1 az=>?_;obtain⟨y,H1,I1,r1,q1⟩:=az;refine bB (ho pins s1 σ H1 v y u w _ I1 r r1 q1) λz s2 az=>?_;obtain⟨zv,H2,I2,r2,q2⟩:=az;exact gR I2 hN hi hx r2 (λs3 I3=>⟨_,H2,I3,q2⟩) hf
 rcases l with ⟨hk,hm⟩ | ⟨hk,c,hc,xQ⟩
 .exact wpAny_loadName_local I.ok.kind hk hn hm go
 .rcases hk with hk | hk
  .exact wpAny_loadName_cell I.ok.kind hk hc xQ go
  .rcases hx with k | k
   .have:X.env.scope.names.lookup x=some .free:=hk;rw[k]at this;cases this
   .have:X.env.scope.names.lookup x=some .free:=hk;rw[k]at this;cases this
end
section
variable {X:Cx}{pos:Pos}
end
structure It where
 go:Nat->Hp->Prop
 yld:Nat->Hp->V->Hp->Prop
 stop:Nat->Hp->Prop
def bQ(X:Cx)(pins:VI)(H:Hp)(b:V8):Prop:=
 H b=none/\b≠X.env.locals/\b∉X.fs/\(b∈X.ex\/X.s₀.heap.objs.size<=b)/\(∀x c,X.env.cells.lookup x=some c->c≠b)/\∀p∈X.pn++pins,p.1≠b
theorem Inv.fpOk{X:Cx}{pins:VI}{σ:St}{H H':Hp}{s:V1}{b:V8}(I:Inv X pins σ H s)(hb:s.heap.objs.size<=b)(hn:H' b=none):bQ X pins H' b:=by
 refine⟨hn,VD (N_ I.lt hb),I.nofs hb,.inr (M_ I.sz hb),λx c e z=>?_,λp hp z=>?_⟩
 .obtain⟨v,q⟩:=I.cell x c e;exact absurd (N_ q.lt (by rw[z];exact hb)) (T7 _)
 .exact absurd (N_ (r_ (I.pin p hp).1) (by rw[z];exact hb)) (T7 _)
structure Turn(P:Program)(w:World)(K:PySem.W.Frag)(tg:Expr)(J:It)(fp:List Addr)(it:Addr)(tn:Nat->Heap->Prop):Prop where
 mem:it∈fp
 obj:∀i h,tn i h->∀b∈fp,∃o,h.get? b=some o/\∀v,o.data≠.cell v
 keep:∀i h h',tn i h->(∀b∈fp,∀o,h.get? b=some o->h'.get? b=some o)->tn i h'
 item:∀(X:Cx),X.prog=P->X.w=w->X.K=K->X.calm=true->∀(i:Nat)(pins:List (Addr×Obj))(s:Shared)(σ:St)(H:Hp)(E:Value->Shared->Prop),Inv X pins σ H s->(∀b∈fp,bQ X pins H b)->tn i s.heap->J.go i H->
  wpAny (model P w) X.A (pyNext (.ref it)) (λr s1=>∃u,r=some u/\
   wpAny (model P w) X.A (letOwnedTupleGo tg (.ref it) u) (λ_ s2=>∃x H',Inv X pins σ H' s2/\RelV x u/\J.yld i H x H'/\tn (i+1) s2.heap/\∀b∈fp,H' b=none) E s1) E s
 done:∀(X:Cx),X.prog=P->X.w=w->X.K=K->X.calm=true->∀(i:Nat)(pins:List (Addr×Obj))(s:Shared)(σ:St)(H:Hp)(E:Value->Shared->Prop),Inv X pins σ H s->(∀b∈fp,bQ X pins H b)->tn i s.heap->J.stop i H->
  wpAny (model P w) X.A (pyNext (.ref it)) (λr s1=>r=none/\Inv X pins σ H s1) E s
 self:∀(A:Around)(i:Nat)(s:Shared)(Q:Value->Shared->Prop)(E:Value->Shared->Prop),tn i s.heap->Q (.ref it) s->wpAny (model P w) A (pyIter (.ref it)) Q E s
abbrev TI:=St->Hp->(It->Hp->Prop)->Prop
def OU(X:Cx)(pins:VI)(σ:St)(tg:V9)(R:It->Hp->Prop)(Ko:V0)(s2:V1):Prop:=
 ∃(it:V8)(fp:VT)(tn:Nat->V4->Prop)(J:It)(H':Hp),Ko=.ref it/\Inv X pins σ H' s2/\Turn X.prog X.w X.K tg J fp it tn/\tn 0 s2.heap/\(∀b∈fp,bQ X pins H' b)/\R J H'
def PI(X:Cx)(tg iter:V9)(wi:TI):Prop:=
 ∀(pins:VI)(s:V1)(σ:St)(H:Hp)(R:It->Hp->Prop),Inv X pins σ H s->wi σ H R->
  wpAny (model X.prog X.w) X.A (eval iter X.env) (λv s1=>wpAny (model X.prog X.w) X.A (pyIter v) (OU X pins σ tg R) X.xe s1) X.xe s
theorem uo{M:Model}{A:V3}{E:VH}{s:V1}{tg:V9}{it:V8}{u:V0}{o:Obj}{n:String}{vs:Array V0}{Q:Unit->V1->Prop}(ho:s.heap.get? it=some o)(hc:o.cls=.type n)(hd:o.data=.fields vs)
    (hn:["enumerate","zip","dict_itemiterator","dict_reverseitemiterator","odict_iterator","itertools.zip_longest","itertools.pairwise"].contains n=false) (hQ:Q () s):wpAny M A (letOwnedTupleGo tg (.ref it) u) Q E s:=by
  unfold letOwnedTupleGo;cases tg<;>first
    | exact g_ hQ
    | (cases u<;>first
        | exact g_ hQ
        | (refine b_ (wpAny_load ho ?_)
           rw[hc,hd];show wpAny M A (if(["enumerate","zip","dict_itemiterator","dict_reverseitemiterator","odict_iterator","itertools.zip_longest","itertools.pairwise"].contains n&&vs[0]?==some (rawInt _))=true then _ else _) Q E s;rw[j_ (by intro h;rw[hn,Bool.false_and]at h;cases h)];exact g_ hQ))
def Pb(K:VZ)(a:V8):It:=
 ⟨λi H=>∃xs x,cW K H a xs/\xs[i]?=some x,λi H x H'=>H'=H/\∀xs,cW K H a xs->xs[i]?=some x,λi H=>∃xs,cW K H a xs/\xs.length<=i⟩
def Oy(K:VZ)(a:V8):It:=
 ⟨λi H=>∃xs x,c7 K H a xs/\xs[i]?=some x,λi H x H'=>H'=H/\∀xs,c7 K H a xs->xs[i]?=some x,λi H=>∃xs,c7 K H a xs/\xs.length<=i⟩
def NM(lo:Int)(n:Nat):It:=⟨λi _=>i<n,λi H x H'=>H'=H/\x=.int (lo+i),λi _=>n<=i⟩
theorem zA{P:V2}{w:V5}{K:VZ}{tg:V9}(a it:V8):Turn P w K tg (Pb K a) [it] it (λi h=>h.IsListIter it a i) where
 mem:=by simp
 obj:=λi h st b hb=>by
  have e:b=it:=by simpa using hb
  subst e;obtain⟨o,e,c,d⟩:=st;exact⟨o,e,λv z=>by rw[d]at z;cases z⟩
 keep:=λi h h' st k=>st.at λo e=>k it (by simp) o e
 item:=by
  intro X hP hw hK hc i pins s σ H E I hf st hg;subst hP hw hK;obtain⟨xs,x,hq,hx⟩:=hg;obtain⟨bu,rv,p,hz⟩:=I.list hq;obtain⟨u,hu,ru⟩:=rv.get hx;obtain⟨f0,f1,f2,f3,f4,f5⟩:=hf it (by simp);refine UI st p.isList (x:=u) (by simpa using hu) λh' nA sb=>?_;have I1:Inv X pins σ H {s with heap:=h'}:=I.turned (t':=s.toks) (λb o hb e=>(sb.2 b hb).trans e) f0 f1 f3 f4 f5;obtain⟨o,e,c,d⟩:=id nA;exact⟨u,rfl,uo (s:={s with heap:=h'}) e c d (by decide) ⟨x,H,I1,ru,⟨rfl,λys hy=>by rw[I.list_inj hy hq];exact hx⟩,nA,λb hb=>(hf b hb).1⟩⟩
 done:=by
  intro X hP hw hK hc i pins s σ H E I hf st hg;subst hP hw hK;obtain⟨xs,hq,hx⟩:=hg;obtain⟨bu,rv,p,hz⟩:=I.list hq;obtain⟨f0,f1,f2,f3,f4,f5⟩:=hf it (by simp);have hl:=rv.length;exact UN (I.ok.hd hc) st p.isList (by simp;lia) λh' eb=>⟨rfl,I.turned (t':=s.toks) (λb o hb e=>eb b o hb e) f0 f1 f3 f4 f5⟩
 self:=λ_ _ _ _ _ st h=>wpAny_pyIter_listiter st h
theorem vt{P:V2}{w:V5}{K:VZ}{tg:V9}(a it:V8):Turn P w K tg (Oy K a) [it] it (λi h=>h.IsTupleIter it a i) where
 mem:=by simp
 obj:=λi h st b hb=>by
  have e:b=it:=by simpa using hb
  subst e;obtain⟨o,e,c,d⟩:=st;exact⟨o,e,λv z=>by rw[d]at z;cases z⟩
 keep:=λi h h' st k=>st.at λo e=>k it (by simp) o e
 item:=by
  intro X hP hw hK hc i pins s σ H E I hf st hg;subst hP hw hK;obtain⟨xs,x,hq,hx⟩:=hg;obtain⟨bu,rv,p,hz⟩:=I.tuple hq;obtain⟨u,hu,ru⟩:=rv.get hx;obtain⟨f0,f1,f2,f3,f4,f5⟩:=hf it (by simp);refine UB st (show s.heap.IsTuple a bu.toArray from p) (x:=u) (by simpa using hu) λh' nA sb=>?_;have I1:Inv X pins σ H {s with heap:=h'}:=I.turned (t':=s.toks) (λb o hb e=>(sb.2 b hb).trans e) f0 f1 f3 f4 f5;obtain⟨o,e,c,d⟩:=id nA;exact⟨u,rfl,uo (s:={s with heap:=h'}) e c d (by decide) ⟨x,H,I1,ru,⟨rfl,λys hy=>by rw[I.tuple_inj hy hq];exact hx⟩,nA,λb hb=>(hf b hb).1⟩⟩
 done:=by
  intro X hP hw hK hc i pins s σ H E I hf st hg;subst hP hw hK;obtain⟨xs,hq,hx⟩:=hg;obtain⟨bu,rv,p,hz⟩:=I.tuple hq;obtain⟨f0,f1,f2,f3,f4,f5⟩:=hf it (by simp);have hl:=rv.length;exact wpAny_pyNext_tuple_end (I.ok.hd hc) st (show s.heap.IsTuple a bu.toArray from p) (by simp;lia) λh' eb=>⟨rfl,I.turned (t':=s.toks) (λb o hb e=>eb b o hb e) f0 f1 f3 f4 f5⟩
 self:=λ_ _ _ _ _ st h=>wpAny_pyIter_tupleiter st h
theorem uV{P:V2}{w:V5}{K:VZ}{tg:V9}(it:V8)(lo:Int)(n:Nat):Turn P w K tg (NM lo n) [it] it (λi h=>IsRangeIter h it (lo+(i:Nat)*1) ((n:Int)-(i:Nat)) 1) where
 mem:=by simp
 obj:=λi h st b hb=>by
  have e:b=it:=by simpa using hb
  subst e;exact⟨_,st,λv z=>by
   have z':Data.fields _=Data.cell v:=z;cases z'⟩
 keep:=λi h h' st k=>k it (by simp) _ st
 item:=by
  intro X hP hw hK hc i pins s σ H E I hf st hg;subst hP hw hK;obtain⟨f0,f1,f2,f3,f4,f5⟩:=hf it (by simp);have W:=Walks.range (prog:=X.prog) (w:=X.w) (I.ok.hd hc) it lo 1 n;refine W.item i s _ _ hg st λv h' tk hv nA kk=>?_;obtain⟨t,rfl⟩:=hv;have I1:Inv X pins σ H {s with heap:=h',toks:=tk}:=I.turned (λb o hb e=>kk b o (by simpa using hb) e) f0 f1 f3 f4 f5;refine⟨_,rfl,uo (s:={s with heap:=h',toks:=tk}) (n:="range_iterator") nA rfl rfl (by decide) ⟨.int (lo+i),H,I1,⟨t,?_⟩,⟨rfl,rfl⟩,nA,λb hb=>(hf b hb).1⟩⟩;rw[Int.mul_one]
 done:=by
  intro X hP hw hK hc i pins s σ H E I hf st hg;subst hP hw hK;obtain⟨f0,f1,f2,f3,f4,f5⟩:=hf it (by simp);exact wpAny_pyNext_range_end (I.ok.hd hc) st (by have:n<=i:=hg;lia) λh' eb=>⟨rfl,I.turned (t':=s.toks) (λb o hb e=>eb b o hb e) f0 f1 f3 f4 f5⟩
 self:=λ_ _ _ _ _ st h=>wpAny_pyIter_rangeiter st h
section
variable {X:Cx}{tg:V9}
def Mp(K:VZ)(tl:TE):TI:=λσ H R=>tl σ H λx H1=>∃a,x=.ref a/\(∃xs,cW K H1 a xs)/\R (Pb K a) H1
def OT(K:VZ)(tl:TE):TI:=λσ H R=>tl σ H λx H1=>∃a,x=.ref a/\(∃xs,c7 K H1 a xs)/\R (Oy K a) H1
theorem Eo{l:V9}{tl:TE}(hl:PE X l tl):PI X tg l (Mp X.K tl):=by
 intro pins s σ H R I h;refine bB (hl pins s σ H _ I h) λv s1 az=>?_;obtain⟨x,H1,I1,r1,q1⟩:=az;obtain⟨a,e,⟨xs,hq⟩,q⟩:=q1;subst e;cases r1;obtain⟨bu,rv,p,hz⟩:=I1.list hq;refine Tv p.isList ?_;refine⟨s1.heap.objs.size,[s1.heap.objs.size],_,_,H1,rfl,I1.kept (t':=s1.toks) λb o e=>e_ _ e,zA a _,⟨_,p_ _ rfl,rfl,rfl⟩,λb hb=>?_,q⟩;have e:b=s1.heap.objs.size:=by simpa using hb
 subst e;exact I1.fpOk (l_ _) (I1.hok.fresh (l_ _))
theorem Jd{l:V9}{tl:TE}(hl:PE X l tl):PI X tg l (OT X.K tl):=by
 intro pins s σ H R I h;refine bB (hl pins s σ H _ I h) λv s1 az=>?_;obtain⟨x,H1,I1,r1,q1⟩:=az;obtain⟨a,e,⟨xs,hq⟩,q⟩:=q1;subst e;cases r1;obtain⟨bu,rv,p,hz⟩:=I1.tuple hq;refine TY (show s1.heap.IsTuple a bu.toArray from p) ?_;refine⟨s1.heap.objs.size,[s1.heap.objs.size],_,_,H1,rfl,I1.kept (t':=s1.toks) λb o e=>e_ _ e,vt a _,⟨_,p_ _ rfl,rfl,rfl⟩,λb hb=>?_,q⟩;have e:b=s1.heap.objs.size:=by simpa using hb
 subst e;exact I1.fpOk (l_ _) (I1.hok.fresh (l_ _))
theorem B5{pins:VI}{σ:St}{H:Hp}{s:V1}{R:It->Hp->Prop}{E:VH}{lo hi:Int}{t u v:Tok}{tk:Nat}(I:Inv X pins σ H s)(h1:-(2 ^ 62)<=lo)(h2:lo<2 ^ 62)(h3:-(2 ^ 62)<=hi)(h4:hi<2 ^ 62)
  (q:R (NM lo (hi-lo).toNat) H):wpAny (model X.prog X.w) X.A (pyIter (.ref s.heap.objs.size)) (OU X pins σ tg R) E {s with heap:=s.heap.push {cls:=.type "range",data:=.fields #[.int lo t,.int hi u,.int 1 v]},toks:=tk}:=by
 refine wpAny_pyIter_range (IsRange.new ..) (small_one h1 h2 h3 h4) ?_;have I1:Inv X pins σ H {s with heap:=s.heap.push {cls:=.type "range",data:=.fields #[.int lo t,.int hi u,.int 1 v]},toks:=tk}:=I.kept λb o e=>e_ _ e;refine⟨(s.heap.push {cls:=.type "range",data:=.fields #[.int lo t,.int hi u,.int 1 v]}).objs.size,[(s.heap.push {cls:=.type "range",data:=.fields #[.int lo t,.int hi u,.int 1 v]}).objs.size],_,_,H,rfl,
  I1.kept (t':=tk) λb o e=>e_ _ e,uV _ lo (hi-lo).toNat,?_,λb hb=>?_,q⟩
 .have e1:lo+((0:Nat):Int)*1=lo:=by simp
  have e2:(((hi-lo).toNat:Nat):Int)-((0:Nat):Int)=Builtin.Range.rangeSize lo hi 1:=by rw[rangeSize_one];split<;>lia
  show IsRangeIter _ _ (lo+((0:Nat):Int)*1) ((((hi-lo).toNat:Nat):Int)-((0:Nat):Int)) 1;rw[e1,e2];exact p_ _ rfl
 .have e:b=(s.heap.push {cls:=.type "range",data:=.fields #[.int lo t,.int hi u,.int 1 v]}).objs.size:=by simpa using hb
  subst e;exact I1.fpOk (l_ _) (I1.hok.fresh (l_ _))
def KA(ta:TA):TI:=λσ H R=>ta σ H λvs H1=>∃j:Int,vs=[.int j]/\-(2 ^ 62)<=j/\j<2 ^ 62/\R (NM 0 j.toNat) H1
theorem ya{a:V9}{ta:TA}{p pos:Pos}(hg:Gl X "range")(hm:X.mg "range"=none)(ha:PA X [a] ta)(hs:starEach [a] X.env=[(false,eval a X.env)]:=by rfl):PI X tg (.Call (.Name "range" p) [a] [] pos) (KA ta):=by
 intro pins s σ H R I h;refine Call_ (jg I hg hm boot_range (Tb (bB (ha pos pins s σ H _ I h) λus s1 az=>?_) hs rfl));obtain⟨vs,H1,I1,r1,q1⟩:=az;obtain⟨j,e,q1,q2,q⟩:=q1;subst e;cases r1 with
 | cons r rr=>
  cases rr;obtain⟨t,rfl⟩:=r;exact call_range_1 (B5 I1 (by lia) (by lia) q1 q2 (by simpa using q))
def Pc(wi:TI)(g:TG)(tb:TS):TS:=λD σ H=>wi σ H λJ H1=>∃W:Nat->Nat->St->Hp->Prop,(∃m,W 0 m σ H1)/\∀i m σ H,W i m σ H->
 (J.stop i H/\D.nx σ H)\/(J.go i H/\∃N:St->Hp->Prop,(∀σ' H',N σ' H'->∃m',m'<m/\W (i+1) m' σ' H')/\∀x H',J.yld i H x H'->g x σ H' λσ2 H2=>tb {D with nx:=N,ct:=N,bk:=D.nx} σ2 H2)
def kc(fp:VT)(h:V4):VI:=fp.filterMap λb=>(h.get? b).map λo=>(b,o)
theorem jh{fp:VT}{h:V4}{b:V8}{o:Obj}(hb:b∈fp)(e:h.get? b=some o):(b,o)∈kc fp h:=U_.mpr ⟨b,hb,by rw[e];rfl⟩
theorem yK{fp:VT}{h:V4}{p:V8×Obj}(hp:p∈kc fp h):p.1∈fp/\h.get? p.1=some p.2:=by
 obtain⟨b,hb,e⟩:=U_.mp hp;cases q:h.get? b with
 | none=>rw[q]at e;cases e
 | some o=>
  rw[q]at e;have e':(b,o)=p:=Option.some.inj e;subst e';exact⟨hb,q⟩
theorem Inv.pinned{pins:VI}{σ:St}{H:Hp}{s:V1}{fp:VT}(I:Inv X pins σ H s)(hf:∀b∈fp,bQ X pins H b)(ho:∀b∈fp,∃o,s.heap.get? b=some o/\∀v,o.data≠.cell v):Inv X (pins++kc fp s.heap) σ H s:=
 I.pins_of λp hp=>(O_.mp hp).elim (λz=>I.pin p (y_ _ z)) λz=>by
  obtain⟨hb,e⟩:=yK z;obtain⟨f0,f1,f2,_⟩:=hf p.1 hb;obtain⟨o,e',d⟩:=ho p.1 hb;rw[e]at e';cases e';exact⟨e,f0,f1,f2,d⟩
theorem Inv.unpinned{pins pl:VI}{σ:St}{H:Hp}{s:V1}(I:Inv X (pins++pl) σ H s):Inv X pins σ H s:=I.pins_of λp hp=>I.pin p (y_ _ (Ud _ hp))
theorem Cz{iter:V9}{body:VV}{wi:TI}{g:TG}{tb:TS}{pos:Pos}(hp:PassesOwn (model X.prog X.w) X.A X.env X.xe)(hc:X.calm=true)(hi:PI X tg iter wi)(hg:PG X tg g)(hb:iG X body tb)
  (hs:∀x,foldedSetIterable iter X.env x=pure x:=by intro _;rfl):PS X (.For tg iter body [] pos) (Pc wi g tb):=by
 intro pins s σ H D I h;refine wpAny_For (bB (hi pins s σ H _ I h) λv s1 h1=>bB h1 λKo s2 h2=>?_) hs;obtain⟨it,fp,tn,J,H2,e,I2,T,st2,f2,W,⟨m0,w0⟩,turn⟩:=h2;subst e;have we:∀{H':Hp},(∀b∈fp,H' b=none)->∀b∈fp,bQ X pins H' b:=λhn b hb=>⟨hn b hb,(f2 b hb).2⟩;refine codeAny_forLoop_any (λn s'=>∃i σ' H',Inv X pins σ' H' s'/\tn i s'.heap/\(∀b∈fp,H' b=none)/\W i n σ' H') ?_ m0 ⟨0,σ,H2,I2,st2,λb hb=>(f2 b hb).1,w0⟩;rintro n s3 ⟨i,σ3,H3,I3,Rc,N0,w3⟩;rcases turn i n σ3 H3 w3 with ⟨stop,qn⟩ | ⟨go,N,hN,step⟩
 .refine Uw hp (bB (T.done X rfl rfl rfl hc i pins s3 σ3 H3 X.xe I3 (we N0) Rc stop) λr s4 az=>?_);obtain⟨hr,I4⟩:=az;subst hr;exact wpAny_execs_nil ⟨σ3,H3,I4,qn⟩
 .refine Uw hp (bB (T.item X rfl rfl rfl hc i pins s3 σ3 H3 X.xe I3 (we N0) Rc go) λr s4 az=>?_);obtain⟨u,hr,h4⟩:=az;subst hr;refine Uw hp (bB h4 λ_ s5 az=>?_);obtain⟨x,H5,I5,r5,y5,Pj,fr5⟩:=az;have I5':=I5.pinned (we fr5) (T.obj _ _ Pj);refine Uw hp (bB (hg _ s5 σ3 H5 x u _ I5' r5 (step x H5 y5)) λ_ s6 az=>?_);obtain⟨σ6,H6,I6,q6⟩:=az;refine Uw hp (bB (hb _ s6 σ6 H6 _ I6 q6) λf s7 q7=>?_);have again:∀{σ7:St}{H7:Hp},Inv X (pins++kc fp s5.heap) σ7 H7 s7->N σ7 H7->∃m,m<n/\∃i σ' H',Inv X pins σ' H' s7/\tn i s7.heap/\(∀b∈fp,H' b=none)/\W i m σ' H':=λ{σ7 H7} I7 n7=>by
   obtain⟨m',hm,w7⟩:=hN σ7 H7 n7;refine⟨m',hm,i+1,σ7,H7,I7.unpinned,T.keep _ _ _ Pj λb hb o e=>(I7.pin (b,o) (y_ _ (y_ _ (jh hb e)))).1,λb hb=>?_,w7⟩;obtain⟨o,e,d⟩:=T.obj _ _ Pj b hb;exact(I7.pin (b,o) (y_ _ (y_ _ (jh hb e)))).2.1
  cases f with
  | next=>obtain⟨σ7,H7,I7,n7⟩:=q7;exact again I7 n7
  | cont=>obtain⟨σ7,H7,I7,n7⟩:=q7;exact again I7 n7
  | brk=>obtain⟨σ7,H7,I7,q7⟩:=q7;exact⟨σ7,H7,I7.unpinned,q7⟩
  | ret v=>obtain⟨x7,σ7,H7,I7,r7,q7⟩:=q7;exact⟨x7,σ7,H7,I7.unpinned,r7,q7⟩
end
abbrev R2:=V->V->Hp->VK->Prop
def jn(X:Cx)(f:V0->V0->Sem V0)(r:R2):Prop:=
 ∀(pins:VI)(s:V1)(σ:St)(H:Hp)(x y:V)(v u:V0)(Q:VK),Inv X pins σ H s->RelV x v->RelV y u->r x y H Q->
  wpAny (model X.prog X.w) X.A (f v u) (EP X pins σ Q) X.xe s
def Oo(X:Cx)(f:V0->Sem V0)(r:V->Hp->VK->Prop):Prop:=
 ∀(pins:VI)(s:V1)(σ:St)(H:Hp)(x:V)(v:V0)(Q:VK),Inv X pins σ H s->RelV x v->r x H Q->
  wpAny (model X.prog X.w) X.A (f v) (EP X pins σ Q) X.xe s
def dv(X:Cx)(f:V0)(r:Wh->Hp->VK->Prop):Prop:=
 ∀(pins:VI)(s:V1)(σ:St)(H:Hp)(xs:Wh)(us:VP)(Q:VK),Inv X pins σ H s->aw xs us->r xs H Q->
  wpAny (model X.prog X.w) X.A (call f us) (EP X pins σ Q) X.xe s
def OX(X:Cx)(r:V->Hp->(Bool->Hp->Prop)->Prop):Prop:=
 ∀(pins:VI)(s:V1)(σ:St)(H:Hp)(x:V)(v:V0)(Q:Bool->Hp->Prop),Inv X pins σ H s->RelV x v->r x H Q->
  wpAny (model X.prog X.w) X.A (truthy v) (TP X pins σ Q) X.xe s
def HP(r:R2)(ta tb:TE):TE:=λσ H Q=>ta σ H λx H1=>tb σ H1 λy H2=>r x y H2 Q
def Sd(r:V->Hp->VK->Prop)(ta:TE):TE:=λσ H Q=>ta σ H λx H1=>r x H1 Q
def rI(C:Int->Int->Prop)(g:Int->Int->V):R2:=λx y H Q=>∃i j,x=.int i/\y=.int j/\C i j/\Q (g i j) H
def yB(g:Int->Int->V):R2:=λx y H Q=>∃i j,x=.int i/\y=.int j/\Q (g i j) H
def rU(g:Int->V):V->Hp->VK->Prop:=λx H Q=>∃i,x=.int i/\Q (g i) H
section
variable {X:Cx}{a b c:V9}{ta tb tc:TE}{pos:Pos}
theorem HL(ha:PE X a ta)(hb:PE X b tb){pins:VI}{s:V1}{σ:St}{H:Hp}{R:V->V->Hp->Prop}(I:Inv X pins σ H s)
  (h:ta σ H λx H1=>tb σ H1 λy H2=>R x y H2) {Q:VH} {f:V0->V0->Sem V0}
  (hf:∀v u s2 x y H2,Inv X pins σ H2 s2->RelV x v->RelV y u->R x y H2->wpAny (model X.prog X.w) X.A (f v u) Q X.xe s2) :
  wpAny (model X.prog X.w) X.A (eval a X.env) (λv s₁=>wpAny (model X.prog X.w) X.A (eval b X.env) (λu s₂=>wpAny (model X.prog X.w) X.A (f v u) Q X.xe s₂) X.xe s₁) X.xe s:=by
 refine bB (ha pins s σ H _ I h) λv s1 az=>?_;obtain⟨x,H1,I1,r1,q1⟩:=az;refine bB (hb pins s1 σ H1 _ I1 q1) λu s2 az=>?_;obtain⟨y,H2,I2,r2,q2⟩:=az;exact hf v u s2 x y H2 I2 r1 r2 q2
theorem K7{op:Operator}{r:R2}(ho:jn X (binaryOp op) r)(ha:PE X a ta)(hb:PE X b tb):PE X (.BinOp a op b pos) (HP r ta tb):=by
 intro pins s σ H Q I h;exact wpAny_BinOp (HL ha hb I h λv u s2 x y H2 I2 rx ry q=>ho pins s2 σ H2 x y v u Q I2 rx ry q)
theorem KG{op:UnaryOp}{r:V->Hp->VK->Prop}(ho:Oo X (unaryOp op) r)(ha:PE X a ta):PE X (.UnaryOp op a pos) (Sd r ta):=by
 intro pins s σ H Q I h;exact UnaryOp_ (bB (ha pins s σ H _ I h) λv s1 ⟨x,H1,I1,r1,q1⟩=>ho pins s1 σ H1 x v Q I1 r1 q1)
theorem Nw{f:V0->V0->Sem V0}{C:Int->Int->Prop}{g:Int->Int->Int}
  (rule:∀(i j:Int)(t u:Tok)(s:V1)(Q:VH)(E:VH),C i j->Q (.int (g i j) s.toks) {s with toks:=s.toks+1}->wpAny (model X.prog X.w) X.A (f (.int i t) (.int j u)) Q E s) :
  jn X f (rI C λi j=>.int (g i j)):=by
 intro pins s σ H x y v u Q I rx ry h;obtain⟨i,j,rfl,rfl,hc,q⟩:=h;obtain⟨t,rfl⟩:=rx;obtain⟨t',rfl⟩:=ry;exact rule i j t t' s _ _ hc ⟨.int (g i j),H,I.tok _,⟨_,rfl⟩,q⟩
theorem Lx{f:V0->V0->Sem V0}{g:Int->Int->Int}
  (rule:∀(i j:Int)(t u:Tok)(s:V1)(Q:VH)(E:VH),Q (.int (g i j) s.toks) {s with toks:=s.toks+1}->wpAny (model X.prog X.w) X.A (f (.int i t) (.int j u)) Q E s) :
  jn X f (yB λi j=>.int (g i j)):=by
 intro pins s σ H x y v u Q I rx ry h;obtain⟨i,j,rfl,rfl,q⟩:=h;obtain⟨t,rfl⟩:=rx;obtain⟨t',rfl⟩:=ry;exact rule i j t t' s _ _ ⟨.int (g i j),H,I.tok _,⟨_,rfl⟩,q⟩
theorem Jq{f:V0->V0->Sem V0}{g:Int->Int->Bool}
  (rule:∀(i j:Int)(t u:Tok)(s:V1)(Q:VH)(E:VH),Q (.bool (g i j)) s->wpAny (model X.prog X.w) X.A (f (.int i t) (.int j u)) Q E s) :
  jn X f (yB λi j=>.bl (g i j)):=by
 intro pins s σ H x y v u Q I rx ry h;obtain⟨i,j,rfl,rfl,q⟩:=h;obtain⟨t,rfl⟩:=rx;obtain⟨t',rfl⟩:=ry;exact rule i j t t' s _ _ ⟨.bl (g i j),H,I,rfl,q⟩
def Ms(i j:Int):Prop:=0<j/\j<1073741824
theorem Jn:jn X (binaryOp .Add) (yB λi j=>.int (i+j)):=Lx λ_ _ _ _ _ _ _ q=>add_int q
theorem I0:jn X (binaryOp .Sub) (yB λi j=>.int (i-j)):=Lx λ_ _ _ _ _ _ _ q=>sub_int q
theorem E8:jn X (binaryOp .FloorDiv) (rI Ms λi j=>.int (i/j)):=Nw λi j _ _ _ _ _ hc q=>by
 have h1:(0:Int)<j:=hc.1;have h2:j<1073741824:=hc.2;exact floordiv_int (by lia) (by rw[Int.fdiv_eq_ediv_of_nonneg i (by lia)];exact q) (.inl (PyProof.noPylong_small (by lia)))
theorem HB:jn X (binaryOp .Mod) (rI (λ_ j=>0<j) λi j=>.int (i%j)):=Nw λi j _ _ _ _ _ hc q=>by
 have h1:(0:Int)<j:=hc;exact mod_int' (by lia) (by rw[Int.fmod_eq_emod_of_nonneg i (by lia)];exact q)
theorem OR{f:V0->Sem V0}{g:Int->Int}
  (rule:∀(i:Int)(t:Tok)(s:V1)(Q:VH)(E:VH),Q (.int (g i) s.toks) {s with toks:=s.toks+1}->wpAny (model X.prog X.w) X.A (f (.int i t)) Q E s) :
  Oo X f (rU λi=>.int (g i)):=by
 intro pins s σ H x v Q I rx h;obtain⟨i,rfl,q⟩:=h;obtain⟨t,rfl⟩:=rx;exact rule i t s _ _ ⟨.int (g i),H,I.tok _,⟨_,rfl⟩,q⟩
theorem Hd:Oo X (unaryOp .USub) (rU λi=>.int (-i)):=OR λ_ _ _ _ _ q=>neg_int q
end
section
variable {X:Cx}{a b c:V9}{ta tb tc:TE}{pos:Pos}
theorem Ap:jn X (compareOp .Lt) (yB λi j=>.bl (decide (i<j))):=Jq λ_ _ _ _ _ _ _ q=>lt_int q
theorem pN:jn X (compareOp .LtE) (yB λi j=>.bl (decide (i<=j))):=Jq λ_ _ _ _ _ _ _ q=>le_int q
theorem Gf:jn X (compareOp .Gt) (yB λi j=>.bl (decide (j<i))):=Jq λ_ _ _ _ _ _ _ q=>gt_int q
theorem fV(b:V9){op:CmpOp}(h:op≠.In:=by decide)(h2:op≠.NotIn:=by decide):behindInMarks op b=false:=by
 have e1:(op==CmpOp.In)=false:=by cases op<;>first | rfl | exact absurd rfl h
 have e2:(op==CmpOp.NotIn)=false:=by cases op<;>first | rfl | exact absurd rfl h2
 cases b<;>simp[behindInMarks,e1,e2]
theorem FE{op:CmpOp}{r:R2}(ho:jn X (compareOp op) r)(ha:PE X a ta)(hb:PE X b tb)(hm:behindInMarks op b=false):PE X (.Compare a [op] [b] pos) (HP r ta tb):=by
 intro pins s σ H Q I h;exact wpAny_Compare1 (HL ha hb I h λv u s2 x y H2 I2 rx ry q=>ho pins s2 σ H2 x y v u Q I2 rx ry q) hm
def Mu(t:TE):TT:=λσ H Q=>t σ H λx H'=>∃k,x=.bl k/\Q k H'
theorem DI{op:CmpOp}{r:R2}(ho:jn X (compareOp op) r)(ha:PE X a ta)(hb:PE X b tb)(hm:behindInMarks op b=false):PT X (.Compare a [op] [b] pos) (Mu (HP r ta tb)):=by
 intro pins s σ H Q I h;refine wpAny_isTrue_Compare1 (bB (ha pins s σ H _ I h) λv s1 ⟨x,H1,I1,r1,q1⟩=>bB (hb pins s1 σ H1 _ I1 q1) λu s2 ⟨y,H2,I2,r2,q2⟩=>
  bB (ho pins s2 σ H2 x y v u _ I2 r1 r2 q2) λc s3 ⟨z,H3,I3,r3,k,e,q3⟩=>?_) hm
 subst e;cases r3;exact SG ⟨H3,I3,q3⟩
def Bc(r r':R2)(ta tb tc:TE):TE:=λσ H Q=>ta σ H λx H1=>tb σ H1 λy H2=>r x y H2 λz H3=>∃k,z=.bl k/\
 (if k=true then tc σ H3 λw' H4=>r' y w' H4 Q else Q (.bl false) H3)
theorem Bk{op op':CmpOp}{r r':R2}(ho:jn X (compareOp op) r)(CQ:jn X (compareOp op') r')(ha:PE X a ta)(hb:PE X b tb)(hc:PE X c tc)
  (hm:lastMarks [op,op'] [b,c]=false:=by with_unfolding_all rfl):PE X (.Compare a [op,op'] [b,c] pos) (Bc r r' ta tb tc):=by
 intro pins s σ H Q I h;refine Compare_chain (bB (ha pins s σ H _ I h) λv s1 ⟨x,H1,I1,r1,q1⟩=>chain_link (bB (hb pins s1 σ H1 _ I1 q1) λu s2 ⟨y,H2,I2,r2,q2⟩=>
  bB (ho pins s2 σ H2 x y v u _ I2 r1 r2 q2) λd s3 ⟨z,H3,I3,r3,k,e,q3⟩=>?_)) hm
 subst e;cases r3;refine SG ?_;cases k with
 | false=>exact ite_ff ⟨.bl false,H3,I3,rfl,q3⟩
 | true=>exact ite_tt (chain_last (bB (hc pins s3 σ H3 _ I3 q3) λw' s4 ⟨z',H4,I4,r4,q4⟩=>CQ pins s4 σ H4 y z' u w' Q I4 r2 r4 q4))
def Le(K:VZ)(x:V)(H:Hp)(k:Bool):Prop:=
 match x with
 | .non=>k=false
 | .bl b=>k=b
 | .int i=>k=(i != 0)
 | .str y=>y.length<=sizeLine/\k=((y.length:Int) != 0)
 | .byt y=>y.size<=sizeLine/\k=((y.size:Int) != 0)
 | .ref p=>(∃xs,cW K H p xs/\k=!xs.isEmpty)\/(∃xs,c7 K H p xs/\k=!xs.isEmpty)\/∃kvs,H p=some (.dK kvs)/\k=!kvs.isEmpty
 | _=>False
theorem vo{κ:Type}{kvs:List (κ×V)}{vs:List (κ×V0)}(r:KV kvs vs):(!vs.isEmpty)=!kvs.isEmpty:=by
 cases r<;>rfl
theorem ml{xs:Wh}{bu:VP}(r:aw xs bu):(!bu.toArray.isEmpty)=!xs.isEmpty:=by
 cases r<;>simp
theorem qT:(sizeLine:Nat)<2 ^ 63:=by rw[Sr];decide
theorem Il:OX X (λx H Q=>∃k,Le X.K x H k/\Q k H):=by
 intro pins s σ H x v Q I rx h;obtain⟨k,e,q⟩:=h;have hl:=qT;have hs:sizeLine=16777216:=Sr;cases x with
 | non=>
  cases rx;have e':k=false:=e;subst e';exact truthy_none ⟨H,I,q⟩
 | bl b=>
  cases rx;have e':k=b:=e;subst e';exact SG ⟨H,I,q⟩
 | int i=>
  obtain⟨t,rfl⟩:=rx;have e':k=(i != 0):=e;subst e';exact PySem.P.truthy_int ⟨H,I,q⟩
 | str y=>
  obtain⟨t,rfl⟩:=rx;obtain⟨hy,e'⟩:y.length<=sizeLine/\k=((y.length:Int) != 0):=e;subst e';exact PySem.P.truthy_str (by lia) ⟨H,I.tok _,q⟩
 | byt y=>
  obtain⟨t,rfl⟩:=rx;obtain⟨hy,e'⟩:y.size<=sizeLine/\k=((y.size:Int) != 0):=e;subst e';exact PySem.W.truthy_bytes (by lia) ⟨H,I.tok _,q⟩
 | ref p=>
  cases rx;have e':(∃xs,cW X.K H p xs/\k=!xs.isEmpty)\/(∃xs,c7 X.K H p xs/\k=!xs.isEmpty)\/∃kvs,H p=some (.dK kvs)/\k=!kvs.isEmpty:=e;rcases e' with ⟨xs,hx,e'⟩ | ⟨xs,hx,e'⟩ | ⟨kvs,hx,e'⟩
  .subst e';obtain⟨bu,r,pl,hz⟩:=I.list hx;have hlen:=r.length;exact wpAny_truthy_list pl.isList (by simp only[t_];lia) ⟨H,I.tok _,by rw[ml r];exact q⟩
  .subst e';obtain⟨bu,r,pl,hz⟩:=I.tuple hx;have hlen:=r.length;exact truthy_tuple pl (by simp only[t_];lia) ⟨H,I.tok _,by rw[ml r];exact q⟩
  .subst e';obtain⟨hz,hS,vs,r,m⟩:kvs.length<=sizeLine/\(p==sysModules)=false/\∃vs,KV kvs vs/\s.heap.DictOf (aF X.prog X.w) p vs:=I.hok p _ hx;have hlen:kvs.length=vs.length:=Paired.length r;exact wpAny_truthy_dict hS m (by lia) ⟨H,I.tok _,by rw[vo r];exact q⟩
 | _=>exact(show False from e).elim
theorem Bw(ha:PE X a ta)(he:∀whole,isTrue a X.env whole=(do let v <- whole;standAt a.pos;holding [v] (truthy v))) :
  PT X a (λσ H Q=>ta σ H λx H'=>∃k,Le X.K x H' k/\Q k H'):=by
 intro pins s σ H Q I h;exact isTrue_plain (bB (ha pins s σ H _ I h) λv s1 ⟨x,H1,I1,r1,q1⟩=>Il pins s1 σ H1 x v Q I1 r1 q1) (he _)
theorem vals1{x:V}{us:VP}(r:aw [x] us):∃u,us=[u]/\RelV x u:=by
 cases r with
 | cons r1 r2=>cases r2;exact⟨_,rfl,r1⟩
theorem vals2{x y:V}{us:VP}(r:aw [x,y] us):∃u w',us=[u,w']/\RelV x u/\RelV y w':=by
 cases r with
 | cons r1 r2=>
  cases r2 with
  | cons r3 r4=>cases r4;exact⟨_,_,rfl,r1,r3⟩
theorem yA(hc:X.calm=true):dv X (.builtin "max") (λxs H Q=>∃i j,xs=[.int i,.int j]/\Q (.int (if j>i then j else i)) H):=by
 intro pins s σ H xs us Q I r h;obtain⟨i,j,rfl,q⟩:=h;obtain⟨u,w',rfl,⟨t,rfl⟩,⟨t',rfl⟩⟩:=vals2 r;refine max_two_ints (I.ok.hd hc) λh' tk k=>⟨_,H,I.kept k,?_,q⟩
 by_cases hj:j>i
 .rw[i_ hj,i_ hj];exact⟨_,rfl⟩
 .rw[j_ hj,j_ hj];exact⟨_,rfl⟩
theorem zB(hc:X.calm=true):dv X (.builtin "min") (λxs H Q=>∃i j,xs=[.int i,.int j]/\Q (.int (if j<i then j else i)) H):=by
 intro pins s σ H xs us Q I r h;obtain⟨i,j,rfl,q⟩:=h;obtain⟨u,w',rfl,⟨t,rfl⟩,⟨t',rfl⟩⟩:=vals2 r;refine min_two_ints (I.ok.hd hc) λh' tk k=>⟨_,H,I.kept k,?_,q⟩
 by_cases hj:j<i
 .rw[i_ hj,i_ hj];exact⟨_,rfl⟩
 .rw[j_ hj,j_ hj];exact⟨_,rfl⟩
theorem zq:dv X (.type "int") (λxs H Q=>(∃i,xs=[.int i]/\Q (.int i) H)\/∃k,xs=[.bl k]/\Q (.int (if k then 1 else 0)) H):=by
 intro pins s σ H xs us Q I r h;rcases h with ⟨i,rfl,q⟩ | ⟨k,rfl,q⟩
 .obtain⟨u,rfl,t,rfl⟩:=vals1 r;exact call_int_int ⟨.int i,H,I,⟨_,rfl⟩,q⟩
 .obtain⟨u,rfl,r1⟩:=vals1 r;cases r1;exact call_int_bool ⟨.int (if k then 1 else 0),H,I.tok _,⟨_,rfl⟩,q⟩
end
structure zG(h:Heap)(x dx C:Addr)(mA:Str->Option Value):Prop where
 obj:h.get? x=some (PySem.W.instObj C dx)
 ns:h.Ns1 dx mA
 ne:dx≠x
theorem zo{h:V4}{dx:V8}{mA:VL}(n:h.Ns1 dx mA):∃od,h.get? dx=some od/\∀name,PySem.W.lookIn name od=some (mA name):=by
 obtain⟨o,es,ep,ho,hd,hk,_,hm⟩:=n;refine⟨o,ho,λname=>?_⟩;have e:=hm name;unfold nsFind findBy at e;rw[<- Array.find?_toList]at e;unfold PySem.W.lookIn;rw[hd];dsimp only
 split
 .rename_i y q;rw[q]at e;exact S0 some e
 .rename_i q;rw[q]at e;have a:es.toList.any (·.refKey)=false:=by
   rw[Vn];intro y hy;obtain⟨z,t,dJ⟩:=hk y (UZ.mp hy);simp[DictEntry.refKey,dJ]
  have a':¬es.toList.any (·.refKey)=true:=by rw[a];exact Sf
  rw[j_ a'];exact S0 some e
theorem zG.look{h:V4}{x dx C:V8}{mA:VL}(I:zG h x dx C mA):∃od,PySem.W.InstAt h x (PySem.W.instObj C dx) C (some od)/\∀name,PySem.W.lookIn name od=some (mA name):=
 let ⟨od,ho,hl⟩:=zo I.ns
 ⟨od,⟨I.obj,rfl,rfl,ho⟩,hl⟩
section
variable {prog:V2}{w:V5}{A:V3}{E:VH}{s:V1}{K:VZ}{x dx C f:V8}{mA:VL}{name:Str}{v:V0}
theorem get_map{expr:Bool}{Q:VH}(X:K.In s.heap)(I:zG s.heap x dx C mA)(hg:PySem.W.plainGet K C name=true)(hh:PySem.W.hasDictIn K C=true)
  (ha:PySem.W.findIn K (.ref C) name=some none) (hv:mA name=some v) (zH:PySem.W.handedIn v=true) (h:Q v {s with toks:=s.toks+1}) :
  wpAny (model prog w) A (getAttr (.ref x) name expr) Q E s:=by
 obtain⟨od,J,hl⟩:=I.look;exact PySem.W.get_value X J (U5 hg).1 (PySem.W.findObj_own hh ha rfl (by rw[hl,hv])) zH h
theorem Aa{pl:Sem Bool}{Q:V0×VP->V1->Prop}(X:K.In s.heap)(I:zG s.heap x dx C mA)(hg:PySem.W.plainGet K C name=true)
  (hf:PySem.W.findIn K (.ref C) name=some (some (.ref f))) (ht:PySem.W.isFn K (.ref f)=true) (hv:mA name=none) (h:Q (.ref f,[.ref x]) s) :
  wpAny (model prog w) A (getMethod (.ref x) name pl) Q E s:=by
 obtain⟨od,J,hl⟩:=I.look;exact PySem.W.method_fn X J (U5 hg).1 (U5 hg).2 hf (TZ.mp ht) (by show(PySem.W.lookIn name od).map (·.isSome)=some false;rw[hl,hv];rfl) h
theorem Eg{ns:VS}{Q:Unit->V1->Prop}(X:K.In s.heap)(I:zG s.heap x dx C mA)
  (hs:PySem.W.findIn K (.ref C) "__setattr__"=some (some (.builtin "object.__setattr__"))) (hp:PySem.W.plainOver K C=true) (ht:PySem.W.takerIn K C name=some none) (hh:PySem.W.hasDictIn K C=true)
  (hw:PySem.Within mA ns) (hsz:ns.length<=sizeLine)
  (h:∀h',zG h' x dx C (λy=>if y=name then some v else mA y)->Heap.SameBut dx s.heap h'->Q () {s with heap:=h',toks:=s.toks+2}) :
  wpAny (model prog w) A (setAttr (.ref x) name v) Q E s:=by
 obtain⟨od,J,hl⟩:=I.look;refine PySem.W.set_plain X J hs (PySem.W.osa_open (s:={s with toks:=s.toks+1}) (r:=none) X J hp ht λb=>?_);obtain⟨cd,hc,MI⟩:=PySem.W.any_some hh;have hx:s.heap.get? x=some ⟨.ref C,some dx,.plain,#[]⟩:=I.obj;refine b_ (g_ (b_ (b_ (wpAny_loadPart hx (b_ (PySem.W.Looks.here (s:={s with toks:=s.toks+1}) (PySem.W.looks_clsIn X hc) ?_))))));rw[MI];refine g_ (a:=some dx) (b_ (g_ (b_ ?_)));refine wpAny_nsSet1 (s:={s with toks:=s.toks+1}) I.ns λh' Pk Kp=>?_;obtain⟨oD,esD,epD,hoD,hdD,hcD⟩:=Pk.count (PySem.Within.cons name v hw);refine b_ (wpAny_lookBehind hoD (by rw[hdD];exact pastItsLine_dict (M_ hcD (by rw[m_];lia))) ?_);exact g_ (h _ ⟨(Kp.2 _ (SR I.ne)).trans I.obj,Pk,I.ne⟩ Kp)
theorem BZ{R:Result->V1->Prop}{vs:VP}{kw:List (Str×V0)}(X:K.In s.heap)(hm:PySem.W.makesIn K C=true)
  (hi:PySem.W.findIn K (.ref C) "__init__"=some (some (.ref f))) (hf:PySem.W.typeIn K (.ref f)=some (.type "function"))
  (h:codeAny (model prog w) (A.under (.builtin "type.__call__" ⟨.ref C::vs,kw⟩)) (.call (.ref f) ⟨.ref (s.heap.objs.size+1)::vs,kw⟩) (PySem.W.InitBack (s.heap.objs.size+1) R)
   {s with heap:=(s.heap.push PySem.W.emptyDict).push (PySem.W.instObj C s.heap.objs.size)}) :
  codeAny (model prog w) A (.call (.ref C) ⟨vs,kw⟩) R s:=by
 obtain⟨hh,g,d,t,os⟩:=s;exact PySem.W.make_core (PySem.W.makes_of X hm) (PySem.W.looks_findIn X hi) (λself=>PySem.W.bind_fn X self hf) (.inl rfl) h
end
def fZ(f:Str)(v:V):List (Str×V)->List (Str×V)
 | []=>[(f,v)]
 | (g,x)::r=>if g=f then(g,v)::r else(g,x)::fZ f v r
theorem k7(f g:Str)(v:V):∀fs:List (Str×V),(fZ f v fs).lookup g=if g=f then some v else fs.lookup g
 | []=>by
  show List.lookup g [(f,v)]=_
  by_cases h:g=f
  .have hb:(g==f)=true:=TZ.mpr h;simp only[List.lookup,hb,i_ h]
  .have hb:(g==f)=false:=S_.mpr h;simp only[List.lookup,hb,j_ h]
 | (k,x)::r=>by
  have ih:=k7 f g v r;rw[show fZ f v ((k,x)::r)=(if k=f then(k,v)::r else(k,x)::fZ f v r)from rfl]
  by_cases hk:k=f
  .rw[i_ hk]
   by_cases h:g=k
   .have hb:(g==k)=true:=TZ.mpr h;simp only[List.lookup,hb,i_ (h.trans hk)]
   .have hb:(g==k)=false:=S_.mpr h;simp only[List.lookup,hb,j_ (λe:g=f=>h (e.trans hk.symm))]
  .rw[j_ hk]
   by_cases h:g=k
   .have hb:(g==k)=true:=TZ.mpr h;simp only[List.lookup,hb,j_ (λe:g=f=>hk (h.symm.trans e))]
   .have hb:(g==k)=false:=S_.mpr h;simp only[List.lookup,hb];exact ih
theorem kA(f:Str)(v:V):∀fs:List (Str×V),f∈(fZ f v fs).map (·.1)/\∀g,g∈fs.map (·.1)->g∈(fZ f v fs).map (·.1)
 | []=>⟨by simp[fZ],λg h=>by simp at h⟩
 | (k,x)::r=>by
  obtain⟨i1,i2⟩:=kA f v r;rw[show fZ f v ((k,x)::r)=(if k=f then(k,v)::r else(k,x)::fZ f v r)from rfl]
  by_cases hk:k=f
  .rw[i_ hk];subst hk;exact⟨by simp,λg h=>by simpa using h⟩
  .rw[j_ hk];refine⟨?_,λg h=>?_⟩
   .rw[B_];exact d_ _ i1
   .rw[B_]at h ⊢;rcases o_.mp h with e | e
    .exact o_.mpr (.inl e)
    .exact d_ _ (i2 g e)
theorem kY(f:Str)(v:V):∀fs:List (Str×V),(fZ f v fs).length<=fs.length+1
 | []=>by simp[fZ]
 | (k,x)::r=>by
  have ih:=kY f v r;rw[show fZ f v ((k,x)::r)=(if k=f then(k,v)::r else(k,x)::fZ f v r)from rfl]
  by_cases hk:k=f
  .rw[i_ hk,m_,m_];lia
  .rw[j_ hk,m_,m_];lia
theorem oa.some_of{v:V}{o:VQ}(r:oa (some v) o):∃u,o=some u/\RelV v u:=by
 cases o with
 | none=>exact(show False from r).elim
 | some u=>exact⟨u,rfl,r⟩
theorem oa.none_of{o:VQ}(r:oa none o):o=none:=by
 cases o with
 | none=>rfl
 | some u=>exact(show False from r).elim
theorem yE{v:V}{u:V0}(r:RelV v u):PySem.W.handedIn u=true:=by
 cases v with
 | non=>cases(show u=Value.none from r);rfl
 | bl b=>cases(show u=Value.bool b from r);rfl
 | int i=>obtain⟨t,e⟩:=(show ∃t,u=Value.int i t from r);cases e;rfl
 | str x=>obtain⟨t,e⟩:=(show ∃t,u=Value.str x t from r);cases e;rfl
 | byt b=>obtain⟨t,e⟩:=(show ∃t,u=Value.bytes b t from r);cases e;rfl
 | flt b=>obtain⟨t,e⟩:=(show ∃t,u=Value.float b t from r);cases e;rfl
 | ref a=>cases(show u=Value.ref a from r);rfl
 | ty n=>cases(show u=Value.type n from r);rfl
section
variable {P:V2}{w:V5}{H H':Hp}{h h':V4}{a C dx:V8}{fs MH:List (Str×V)}
theorem pS(hok:lN P w H h)(e:H a=some (.ins C dx fs)):∃mA,zG h a dx C mA/\(∀f,oa (fs.lookup f) (mA f))/\PySem.Within mA (fs.map (·.1))/\fs.length<=1000/\H dx=some (.own a):=by
 obtain⟨d,z,ne,ob,mA,n,r,q⟩:=(show bp P w H h a (.ins C dx fs)from hok a _ e);exact⟨mA,⟨ob,n,ne⟩,r,q,z,d⟩
end
structure zR(K:PySem.W.Frag)(C:Addr):Prop where
 pg:PySem.W.plainGet K C Str.empty=true
 hd:PySem.W.hasDictIn K C=true
 po:PySem.W.plainOver K C=true
 sa:PySem.W.findIn K (.ref C) "__setattr__"=some (some (.builtin "object.__setattr__"))
theorem zR.get{K:VZ}{C:V8}(c:zR K C)(f:Str):PySem.W.plainGet K C f=true:=c.pg
def dX(K:VZ)(C:V8)(f:Str):Prop:=PySem.W.findIn K (.ref C) f=some none
theorem dX.taker{K:VZ}{C:V8}{f:Str}(n:dX K C f):PySem.W.takerIn K C f=some none:=by
 unfold PySem.W.takerIn;rw[show PySem.W.findIn K (.ref C) f=some none from n]
 rfl
structure Con(K:PySem.W.Frag)(C:Addr)(f:Str)(v:V)(u:Value):Prop where
 at_:PySem.W.findIn K (.ref C) f=some (some u)
 rel:RelV v u
 get:PySem.W.specialIn K u "__get__"=some none
 cp:PySem.W.copiedNames.contains f=false
structure CU(K:PySem.W.Frag)(C:Addr)(m:Str)(f:Addr):Prop where
 at_:PySem.W.findIn K (.ref C) m=some (some (.ref f))
 fn:PySem.W.isFn K (.ref f)=true
 kp:PySem.W.keepIn K (.ref f)=true
section
variable {X:Cx}{pins:VI}{σ:St}{H:Hp}{s:V1}{a C dx:V8}{fs:List (Str×V)}{f:Str}{v:V}{A:V3}{E:VH}
theorem vp{b:Bool}{Q:VH}(I:Inv X pins σ H s)(e:H a=some (.ins C dx fs))(c:zR X.K C)(n:dX X.K C f)(l:fs.lookup f=some v)
  (h:∀u s',Inv X pins σ H s'->RelV v u->Q u s'):wpAny (model X.prog X.w) A (getAttr (.ref a) f b) Q E s:=by
 obtain⟨mA,O,r,_,_,_⟩:=pS I.hok e;obtain⟨u,hu,ru⟩:=oa.some_of (v:=v) (o:=mA f) (by rw[<- l];exact r f);exact get_map I.kIn O (c.get f) c.hd n hu (yE ru) (h u _ (I.tok _) ru)
theorem vq{m:Str}{g:V8}{pl:Sem Bool}{Q:V0×VP->V1->Prop}(I:Inv X pins σ H s)(e:H a=some (.ins C dx fs))(c:zR X.K C)(k:CU X.K C m g)(l:fs.lookup m=none)
  (h:Q (.ref g,[.ref a]) s):wpAny (model X.prog X.w) A (getMethod (.ref a) m pl) Q E s:=by
 obtain⟨mA,O,r,_,_,_⟩:=pS I.hok e;have hn:mA m=none:=oa.none_of (by rw[<- l];exact r m);exact Aa I.kIn O (c.get m) k.at_ k.fn hn h
theorem u9{y:V}{u:V0}{Q:Unit->V1->Prop}(I:Inv X pins σ H s)(e:H a=some (.ins C dx fs))(c:zR X.K C)(n:dX X.K C f)(hl:fs.length<1000)(ry:RelV y u)
  (h:∀s',Inv X pins σ (upd H a (.ins C dx (fZ f y fs))) s'->Q () s'):wpAny (model X.prog X.w) A (setAttr (.ref a) f u) Q E s:=by
 obtain⟨mA,O,r,wi,_,ho⟩:=pS I.hok e;have hz:(fs.map (·.1)).length<=sizeLine:=by rw[c_,Sr];lia
 refine Eg I.kIn O c.sa c.po n.taker c.hd wi hz λh' O' sb=>h _ ?_;have hd:∃o,h'.get? dx=some o:=let ⟨o,_,_,e',_⟩:=O'.ns;⟨o,e'⟩;refine I.write (x:=a) (e:=dx) (by rw[e];exact True.intro) (.inr ho) (λb q hb z=>(sb.2 b hb).trans z) hd ?_;refine⟨by rw[au O.ne];exact ho,?_,O.ne,O'.obj,_,O'.ns,λg=>?_,λg hg=>?_⟩
 .have:=kY f y fs;lia
 .show oa ((fZ f y fs).lookup g) (if g=f then some u else mA g);rw[k7]
  by_cases q:g=f
  .rw[i_ q,i_ q];exact ry
  .rw[j_ q,j_ q];exact r g
 .by_cases q:g=f
  .rw[q];exact(kA f y fs).1
  .refine(kA f y fs).2 g (wi g λz=>hg ?_);show(if g=f then some u else mA g)=none;rw[j_ q];exact z
theorem Inv.made(I:Inv X pins σ H s):Inv X pins σ (upd (upd H s.heap.objs.size (.own (s.heap.objs.size+1))) (s.heap.objs.size+1) (.ins C s.heap.objs.size []))
  {s with heap:=(s.heap.push PySem.W.emptyDict).push (PySem.W.instObj C s.heap.objs.size)}:=by
 have e1:(s.heap.push PySem.W.emptyDict).get? s.heap.objs.size=some PySem.W.emptyDict:=p_ s.heap rfl;have e2:((s.heap.push PySem.W.emptyDict).push (PySem.W.instObj C s.heap.objs.size)).get? (s.heap.objs.size+1)=some (PySem.W.instObj C s.heap.objs.size):=by
  have:=p_ (s.heap.push PySem.W.emptyDict) (o:=PySem.W.instObj C s.heap.objs.size) rfl;rwa [Ti]at this
 have e3:(s.heap.push PySem.W.emptyDict).Ns s.heap.objs.size (λ_=>none):=⟨PySem.W.emptyDict,#[],_,e1,rfl,(λe he=>absurd he (by simp)),λ_=>rfl⟩;have I1:=I.laid (a:=s.heap.objs.size) (o:=.own (s.heap.objs.size+1)) (h':=s.heap.push PySem.W.emptyDict) (t':=s.toks) (λb u q=>e_ _ q) (l_ _) ⟨_,e1⟩;refine I1.laid (a:=s.heap.objs.size+1) (o:=.ins C s.heap.objs.size []) (t':=s.toks) (λb u q=>e_ _ q) (Nat.le_of_eq (Ti _ _)) ?_;have ne:s.heap.objs.size≠s.heap.objs.size+1:=w_ (Ui _);refine⟨by rw[au ne,av],Ts _,ne,e2,λ_=>none,(Heap.Ns1.of_empty e3).at λo q=>e_ _ q,λ_=>True.intro,λy hy=>absurd rfl hy⟩
theorem Fj{prog:V2}{w:V5}{env:Env}{e:V9}{f:Str}{pos:Pos}{s:V1}{Q:VH}(hb:attributeBase e f env (eval e env)=eval e env)
  (h:wpAny (model prog w) A (eval e env) (λo s₁=>wpAny (model prog w) A (getAttr o f true) Q E s₁) E s):wpAny (model prog w) A (eval (.Attribute e f pos) env) Q E s:=
 Attribute_any_ h (by rw[arm_eval_Attribute,hb])
end
def O9(K:VZ)(ta:TE)(f:Str):TE:=λσ H Q=>ta σ H λx H1=>∃a C dx fs v,x=.ref a/\H1 a=some (.ins C dx fs)/\zR K C/\dX K C f/\fs.lookup f=some v/\Q v H1
def OF(K:VZ)(ta tv:TE)(f:Str):TS:=λD σ H=>tv σ H λy H1=>ta σ H1 λx H2=>∃a C dx fs,x=.ref a/\H2 a=some (.ins C dx fs)/\zR K C/\dX K C f/\fs.length<1000/\
 D.nx σ (upd H2 a (.ins C dx (fZ f y fs)))
section
variable {X:Cx}{o e value:V9}{f:Str}{pos pos' tpos:Pos}{ta tv:TE}
theorem qp(he:PE X e ta)(hb:attributeBase e f X.env (eval e X.env)=eval e X.env):PE X (.Attribute e f pos) (O9 X.K ta f):=by
 intro pins s σ H Q I h;refine Fj hb (bB (he pins s σ H _ I h) λu s1 az=>?_);obtain⟨x,H1,I1,rx,a,C,dx,fs,v,ex,ea,c,n,l,q⟩:=az;subst ex;obtain rfl:u=Value.ref a:=rx;exact vp I1 ea c n l λu' s2 I2 ru=>⟨v,H1,I2,ru,q⟩
theorem Cr(ha:PE X o ta)(hv:PE X value tv)(hs:swapsWith value (some (.Attribute o f pos')) pos.line X.env=pure false):PS X (.Assign [.Attribute o f pos'] value pos) (OF X.K ta tv f):=by
 intro pins s σ H D I h;refine plainObj_wpAny_Assign_Attribute (bB (hv pins s σ H _ I h) λu s1 ⟨y,H1,I1,ry,q⟩=>bB (ha pins s1 σ H1 _ I1 q) λov s2 az=>?_) hs;obtain⟨x,H2,I2,rx,a,C,dx,fs,ex,ea,c,n,l,q2⟩:=az;subst ex;obtain rfl:ov=Value.ref a:=rx;exact u9 I2 ea c n l ry λs3 I3=>⟨σ,_,I3,q2⟩
end
section
variable {X:Cx}{pins:VI}{σ:St}{H:Hp}{s:V1}{A:V3}{E:VH}{Q:VH}{c:V0}{b:Bool}
inductive nB(K:PySem.W.Frag)(H:Hp):V->Value->Prop where
 | non:nB K H .non (.type "NoneType")
 | bl (x:Bool):nB K H (.bl x) (.type "bool")
 | int (i:Int):nB K H (.int i) (.type "int")
 | str (x:Str):nB K H (.str x) (.type "str")
 | flt (x:UInt64):nB K H (.flt x) (.type "float")
 | lst {a:Addr} {xs:List V} (e:H a=some (.lst xs)):nB K H (.ref a) (.type "list")
 | frz {a:Addr} {o:Obj} {xs:List V} (e:H a=some (.frz o (.lst xs))):nB K H (.ref a) (.type "list")
 | tup {a:Addr} {xs:List V} (e:H a=some (.tup xs)):nB K H (.ref a) (.type "tuple")
 | dK {a:Addr} {kvs:List (Key×V)} (e:H a=some (.dK kvs)):nB K H (.ref a) (.type "dict")
 | dT {a:Addr} {kvs:List (List Key×V)} (e:H a=some (.dT kvs)):nB K H (.ref a) (.type "dict")
 | ins {a C dx:Addr} {fs:List (Str×V)} (e:H a=some (.ins C dx fs)) (cl:zR K C) (ha:PySem.W.findIn K (.ref C) "__class__"=some (some (.builtin "object.__class__")))
   (hn:PySem.W.specialIn K (.builtin "object.__class__") "__get__"=some (some (.builtin "getset_descriptor.__get__"))) (htk:PySem.W.takesIn K (.builtin "object.__class__")=some true)
   (hm:PySem.W.mroIn K C (.type "object")=some true):nB K H (.ref a) (.ref C)
end
structure bo(k:Nat)(A:Around):Prop where
 hd:A.handled=none
 dp:A.depth+3*k+5<recursionLimit
 un:A.units+16*k+200<cLine
theorem bo.mono{j k:Nat}{A:V3}(r:bo k A)(h:j<=k):bo j A:=⟨r.hd,by have:=r.dp;lia,by have:=r.un;lia⟩
theorem bo.deeper{k:Nat}{A:V3}(r:bo (k+1) A)(env:Env):bo k (A.deeper env):=
 ⟨r.hd,by have:=r.dp;show A.depth+1+3*k+5<_;lia,by have:=r.un;show A.units+3+16*k+200<_;lia⟩
theorem bo.in1{k:Nat}{A:V3}(r:bo (k+1) A):bo k A.in1:=
 ⟨r.hd,by have:=r.dp;show A.depth+3*k+5<_;lia,by have:=r.un;show A.units+1+16*k+200<_;lia⟩
theorem vJ{A:V3}{C:V8}{us:VP}{kw:List (Str×V0)}:(A.under (.builtin "type.__call__" ⟨.ref C::us,kw⟩)).depth=A.depth+1:=by
 first | rfl | simp[Around.under,Code.weight,Code.isCreation,Code.isGuard,Code.isCaller,Code.frames,Code.isFrame,guardIds]
theorem vj{A:V3}{C:V8}{us:VP}{kw:List (Str×V0)}:(A.under (.builtin "type.__call__" ⟨.ref C::us,kw⟩)).units=A.units+1:=by
 first | rfl | simp[Around.under,Code.cUnits,Code.frames,Code.isFrame]
theorem bo.make{k:Nat}{A:V3}(r:bo (k+1) A)(C:V8)(us:VP)(kw:List (Str×V0)):bo k (A.under (.builtin "type.__call__" ⟨.ref C::us,kw⟩)):=
 ⟨r.hd,by have:=r.dp;rw[vJ];lia,by have:=r.un;rw[vj];lia⟩
theorem bo.depth{k:Nat}{A:V3}(r:bo k A):A.depth<recursionLimit:=by have:=r.dp;lia
theorem bo.units{k:Nat}{A:V3}(r:bo k A):A.units+64<cLine:=by have:=r.un;lia
def tNil:TA:=λ_ H Q=>Q [] H
def xG(ta:TE)(tr:TA):TA:=λσ H Q=>ta σ H λx H1=>tr σ H1 λxs H2=>Q (x::xs) H2
section
variable {X:Cx}{e:V9}{es:VU}{te:TE}{t:TA}{pos:Pos}
theorem cj:PA X [] tNil:=λ_ _ _ _ H Q I h=>Calls.spliced_nil ⟨[],H,I,.nil,h⟩
theorem aY(ha:PE X e te)(hr:PA X es t)(hs:starEach (e::es) X.env=(false,eval e X.env)::starEach es X.env:=by rfl):PA X (e::es) (xG te t):=by
 intro pos pins s σ H Q I h;rw[hs];show wpAny _ _ (spliced ((false,eval e X.env)::backTo pos (starEach es X.env))) _ _ s;refine Vc (bB (ha pins s σ H _ I h) λu s1 az=>?_);obtain⟨x,H1,I1,r1,q1⟩:=az;exact bB (hr pos pins s1 σ H1 _ I1 q1) λus s2 ⟨xs,H2,I2,r2,q2⟩=>⟨x::xs,H2,I2,.cons r1 r2,q2⟩
def OD(t:TA):TE:=λσ H Q=>t σ H λxs H1=>xs.length<=sizeLine/\∀p,H1 p=none->Q (.ref p) (upd H1 p (.tup xs))
def OJ(t:TA):TE:=λσ H Q=>t σ H λxs H1=>xs.length<=sizeLine/\∀p,H1 p=none->Q (.ref p) (upd H1 p (.lst xs))
theorem Ir{x1}(h:PA X es t):PE X (.Tuple es x1 pos) (OD t):=by
 intro pins s σ H Q I hq;refine wpAny_Tuple_spliced (bB (h pos pins s σ H _ I hq) λus s1 ⟨xs,H1,I1,r,z,q⟩=>⟨by rw[<- r.length];exact z,?_⟩);have hf:H1 s1.heap.objs.size=none:=I1.hok.fresh (l_ _);refine⟨.ref s1.heap.objs.size,upd H1 s1.heap.objs.size (.tup xs),I1.laid (t':=s1.toks) (λb u e=>e_ _ e) (l_ _) ?_,rfl,q _ hf⟩;exact⟨z,us,r,⟨_,p_ _ rfl,rfl,_,rfl⟩⟩
theorem Ih(h:PA X es t):PE X (.List es pos) (OJ t):=by
 intro pins s σ H Q I hq;refine wpAny_List_spliced (bB (h pos pins s σ H _ I hq) λus s1 ⟨xs,H1,I1,r,z,q⟩=>⟨by rw[<- r.length];exact z,?_⟩);have hf:H1 s1.heap.objs.size=none:=I1.hok.fresh (l_ _);refine⟨.ref s1.heap.objs.size,upd H1 s1.heap.objs.size (.lst xs),I1.laid (t':=s1.toks) (λb u e=>e_ _ e) (l_ _) ?_,rfl,q _ hf⟩;exact⟨z,us,0,r,p_ _ rfl⟩
end
abbrev Sp:=Wh->Hp->VK->XK->Prop
abbrev CXT:=List Env->Hp->V1->XK->VH
structure zI(P:Program)(w:World)(K:PySem.W.Frag)(mg:Str->Option Value)(base:Heap)(A:Around)(outer:List Env)(s:Shared)(H:Hp):Prop where
 frames:A.frames=some outer
 mod:Mod K mg base
 bs:∀b o,base.get? b=some o->s.heap.get? b=some o/\H b=none
 bsz:base.objs.size<=s.heap.objs.size
 funs:s.heap.FunFrames base outer
 frf:∀b∈rS outer,H b=none
 hok:lN P w H s.heap
 bare:AllBare s.gens
 tb:∀P q,tq K P=some q->H P=some (.tab q)
def CE(outer:List Env)(P:V2)(w:V5)(H:Hp)(s:V1)(Q:VK)(u:V0)(s':V1):Prop:=
 ∃v H',s'.os=s.os/\AllBare s'.gens/\Un (rS outer) [] H H' s.heap s'.heap/\lN P w H' s'.heap/\RelV v u/\Q v H'
def CR(CX:CXT)(outer:List Env)(P:V2)(w:V5)(H:Hp)(s:V1)(Q:VK)(E:XK)(r:Result)(s':V1):Prop:=
 match r with
 | .ok (.ret u)=>CE outer P w H s Q u s'
 | .ok _=>False
 | .error e=>CX outer H s E e s'
structure dM(P:Program)(w:World)(K:PySem.W.Frag)(mg:Str->Option Value)(base:Heap)(CX:CXT)(k:Nat)(f:Addr)(fd:FuncData)(ps:List Str)(sp:Sp):Prop where
 len:∀vs H Q E,sp vs H Q E->vs.length=ps.length
 run:∀(A:Around)(outer:List Env)(s:Shared)(H:Hp)(args:Args)(us:List Value)(vs:List V)(Q:VK)(E:XK),bo k A->zI P w K mg base A outer s H->BindsTo s fd args (ps.zip us)->aw vs us->sp vs H Q E->
  codeAny (model P w) A (.call (.ref f) args) (CR CX outer P w H s Q E) s
theorem dM.mono{P:V2}{w:V5}{K:VZ}{mg:VL}{base:V4}{CX:CXT}{j k:Nat}{f:V8}{fd:V6}{ps:VS}{sp:Sp}(F:dM P w K mg base CX j f fd ps sp)(h:j<=k) :
  dM P w K mg base CX k f fd ps sp:=⟨F.len,λA outer s H args us vs Q E hr=>F.run A outer s H args us vs Q E (hr.mono h)⟩
theorem zI.make{P:V2}{w:V5}{K:VZ}{mg:VL}{base:V4}{A:V3}{outer:List Env}{s:V1}{H:Hp}(e:zI P w K mg base A outer s H)(C:V8)(us:VP)(kw:List (Str×V0)) :
  zI P w K mg base (A.under (.builtin "type.__call__" ⟨.ref C::us,kw⟩)) outer s H:=⟨by first | exact e.frames | (simpa [Around.under,Code.envs,Code.isFrame,pushEnvs]using e.frames),e.mod,e.bs,e.bsz,e.funs,e.frf,e.hok,e.bare,e.tb⟩
section
variable {X:Cx}{pins:VI}{σ:St}{H:Hp}{s s':V1}
theorem Inv.env0(I:Inv X pins σ H s):zI X.prog X.w X.K X.mg X.base X.A X.stack s H:=
 ⟨I.ok.frames,I.ok.mod,I.bs,M_ I.ok.bsz I.sz,I.stack,I.stkFree,I.hok,I.bare,I.tb⟩
theorem Inv.after{Q:VK}{u:V0}(I:Inv X pins σ H s)(h:CE X.stack X.prog X.w H s Q u s'):EP X pins σ Q u s':=by
 obtain⟨v,H',os,bare,un,hok,r,q⟩:=h;obtain⟨hh,g,d,t,os'⟩:=s';obtain rfl:os'=s.os:=os;exact⟨v,H',I.call (h':=hh) (g':=g) (d':=d) (t':=t) (ch:=[]) un hok bare (λb z=>absurd z (by simp)),r,q⟩
end
def LV(sp:Sp)(rP:Wh)(E:XK)(t:TA):TE:=λσ H Q=>t σ H λvs H1=>sp (vs++rP) H1 Q E
def K5(C:V8)(m:Str)(sp:Sp)(rP:Wh)(E:XK)(ta:TE)(t:TA):TE:=λσ H Q=>ta σ H λx H1=>∃a dx fs,x=.ref a/\H1 a=some (.ins C dx fs)/\fs.lookup m=none/\
 t σ H1 λvs H2=>sp (x::(vs++rP)) H2 Q E
def LR(C:V8)(sp:Sp)(rP:Wh)(E:XK)(t:TA):TE:=λσ H Q=>t σ H λvs H1=>∀x dx,H1 x=none->H1 dx=none->dx≠x->
 sp (.ref x::(vs++rP)) (upd (upd H1 dx (.own x)) x (.ins C dx [])) (λv H2=>v=.non/\Q (.ref x) H2) E
def Binds(K:VZ)(fd:V6)(ps:VS)(ds:VP):Prop:=
 ∀(s:V1)(us:VP),K.In s.heap->(us++ds).length=ps.length->BindsTo s fd ⟨us,[]⟩ (ps.zip (us++ds))
theorem Binds.all{K:VZ}{fd:V6}{ps:VS}(h:∀us:VP,us.length=ps.length->bindArgs fd ⟨us,[]⟩=pure (ps.zip us)):Binds K fd ps []:=λs us _ hl=>by
 rw[G_]at hl ⊢;exact .of_eq (h us hl)
def jT(CX:CXT)(X:Cx)(E:XK):Prop:=∀(pins:VI)(σ:St)(H:Hp)(s:V1)(e:V0)(s':V1),Inv X pins σ H s->CX X.stack H s E e s'->X.xe e s'
section
variable {X:Cx}{CX:CXT}{k:Nat}{f C:V8}{fd:V6}{ps:VS}{sp:Sp}{rP:Wh}{ds:VP}{E:XK}{x m:Str}{p pos apos:Pos}{e o:V9}{es:VU}{ta:TE}{t:TA}
theorem Cy{pins:VI}{σ:St}{H:Hp}{s:V1}{Q:VK}{us:VP}{vs:Wh}(F:dM X.prog X.w X.K X.mg X.base CX k f fd ps sp)(hr:bo k X.A)(hb:Binds X.K fd ps ds)(hd:aw rP ds)(hx:jT CX X E)
  (I:Inv X pins σ H s) (r:aw vs us) (h:sp (vs++rP) H Q E):wpAny (model X.prog X.w) X.A (call (.ref f) us) (EP X pins σ Q) X.xe s:=by
 have r2:aw (vs++rP) (us++ds):=r.append hd;have hl:(us++ds).length=ps.length:=by rw[<- r2.length];exact F.len _ _ _ _ h
 refine wpAny_call (Uj (F.run X.A X.stack s H ⟨us,[]⟩ (us++ds) (vs++rP) Q E hr I.env0 (hb s us I.kIn hl) r2 h) λr s' hq=>?_);cases r with
 | error e=>exact hx pins σ H s e s' I hq
 | ok fl=>
  cases fl with
  | ret u=>exact I.after hq
  | next=>exact False.elim hq
  | brk=>exact False.elim hq
  | cont=>exact False.elim hq
theorem xf(F:dM X.prog X.w X.K X.mg X.base CX k f fd ps sp)(hr:bo k X.A)(hg:Gl X x)(hm:X.mg x=some (.ref f))(hk:PySem.W.keepIn X.K (.ref f)=true)(hb:Binds X.K fd ps ds)(hd:aw rP ds)(hx:jT CX X E)
  (ha:PA X (e::es) t) (nC:(x==("__debug__":Str))=false:=by decide) (he:starEach (e::es) X.env=(false,eval e X.env)::starEach es X.env:=by rfl) (fL:(backTo pos (starEach es X.env)).any (·.1)=false:=by rfl) :
  PE X (.Call (.Name x p) (e::es) [] pos) (LV sp rP E t):=by
 intro pins s σ H Q I h;refine T1 (qR I hg hm ?_ nC);refine Vd (h₀:=X.base) I.ok.mod.kin hk (bB (ha pos pins s σ H _ I h) λus s1 ⟨vs,H1,I1,r,q⟩=>⟨I1.kIn,?_⟩) he fL;exact Cy F hr hb hd hx I1 r q
theorem E7{pl:Sem Bool}(he:PE X o ta)(c:zR X.K C)(hm:CU X.K C m f)(F:dM X.prog X.w X.K X.mg X.base CX k f fd ps sp)(hr:bo k X.A)(hb:Binds X.K fd ps ds)(hd:aw rP ds)(hx:jT CX X E)(ha:PA X (e::es) t)
  (hst:starEach (e::es) X.env=(false,eval e X.env)::starEach es X.env:=by rfl) (fL:(backTo pos (starEach es X.env)).any (·.1)=false:=by rfl)
  (ht:eval (.Call (.Attribute o m apos) (e::es) [] pos) X.env=(do
   let ov <- eval o X.env
   standAt apos.atName
   let (f,first) <- holding [ov] (getMethod ov m pl)
   callWith pos f first (backTo pos (starEach (e::es) X.env)) (backToKw pos (keywordEach [] X.env))):=by rfl) :
  PE X (.Call (.Attribute o m apos) (e::es) [] pos) (K5 C m sp rP E ta t):=by
 intro pins s σ H Q I h;refine PySem.W.methodCall_KW (pl:=pl) (bB (he pins s σ H _ I h) λu s1 az=>?_) ht;obtain⟨x,H1,I1,rx,a,dx,fs,ex,ea,l,q⟩:=az;subst ex;obtain rfl:u=Value.ref a:=rx;refine vq I1 ea c hm l ?_;refine Vd (first:=[.ref a]) (h₀:=X.base) I.ok.mod.kin hm.kp (bB (ha pos pins s1 σ H1 _ I1 q) λus s2 ⟨vs,H2,I2,r,q2⟩=>⟨I2.kIn,?_⟩) hst fL;exact Cy (us:=.ref a::us) (vs:=.ref a::vs) F hr hb hd hx I2 (.cons rfl r) q2
structure Mk(K:PySem.W.Frag)(C f:Addr):Prop where
 makes:PySem.W.makesIn K C=true
 init:PySem.W.findIn K (.ref C) "__init__"=some (some (.ref f))
 fn:PySem.W.isFn K (.ref f)=true
 kp:PySem.W.keepIn K (.ref C)=true
theorem BK{pins:VI}{σ:St}{H:Hp}{s:V1}{Q:VK}{us:VP}{vs:Wh}(M:Mk X.K C f)(F:dM X.prog X.w X.K X.mg X.base CX k f fd ps sp)(hr:bo (k+1) X.A)(hb:Binds X.K fd ps ds)(hd:aw rP ds)
  (hx:jT CX X E) (I:Inv X pins σ H s) (r:aw vs us)
  (h:∀x dx,H x=none->H dx=none->dx≠x->sp (.ref x::(vs++rP)) (upd (upd H dx (.own x)) x (.ins C dx [])) (λv H2=>v=.non/\Q (.ref x) H2) E) :
  wpAny (model X.prog X.w) X.A (call (.ref C) us) (EP X pins σ Q) X.xe s:=by
 have hq:=h (s.heap.objs.size+1) s.heap.objs.size (I.hok.fresh (UC _)) (I.hok.fresh (l_ _)) (w_ (Ui _));have I2:=Inv.made (C:=C) I;have r2:aw (V.ref (s.heap.objs.size+1)::(vs++rP)) (Value.ref (s.heap.objs.size+1)::(us++ds)):=.cons rfl (r.append hd);have hl:(Value.ref (s.heap.objs.size+1)::us++ds).length=ps.length:=by
  have e:=r2.length;rw[F.len _ _ _ _ hq]at e;exact e.symm
 refine wpAny_call (BZ (f:=f) I.kIn M.makes M.init (TZ.mp M.fn) (Uj (F.run _ X.stack _ _ ⟨Value.ref (s.heap.objs.size+1)::us,[]⟩ (Value.ref (s.heap.objs.size+1)::(us++ds)) _ _ E (hr.make C us [])
  (I2.env0.make C us []) (hb _ (Value.ref (s.heap.objs.size+1)::us) I2.kIn hl) r2 hq) λr s' rO=>?_))
 cases r with
 | error e=>exact hx pins σ _ _ e s' I2 rO
 | ok fl=>
  cases fl with
  | ret u=>
   obtain⟨v,H',I3,rv,ev,q3⟩:=I2.after rO;subst ev;exact⟨rv,⟨V.ref (s.heap.objs.size+1),H',I3,rfl,q3⟩⟩
  | next=>exact False.elim rO
  | brk=>exact False.elim rO
  | cont=>exact False.elim rO
theorem D3(M:Mk X.K C f)(F:dM X.prog X.w X.K X.mg X.base CX k f fd ps sp)(hr:bo (k+1) X.A)(hg:Gl X x)(hm:X.mg x=some (.ref C))(hb:Binds X.K fd ps ds)(hd:aw rP ds)(hx:jT CX X E)
  (ha:PA X (e::es) t) (nC:(x==("__debug__":Str))=false:=by decide) (he:starEach (e::es) X.env=(false,eval e X.env)::starEach es X.env:=by rfl) (fL:(backTo pos (starEach es X.env)).any (·.1)=false:=by rfl) :
  PE X (.Call (.Name x p) (e::es) [] pos) (LR C sp rP E t):=by
 intro pins s σ H Q I h;refine T1 (qR I hg hm ?_ nC);refine Vd (h₀:=X.base) I.ok.mod.kin M.kp (bB (ha pos pins s σ H _ I h) λus s1 ⟨vs,H1,I1,r,q⟩=>⟨I1.kIn,?_⟩) he fL;exact BK M F hr hb hd hx I1 r q
end
section
variable {X:Cx}{CX:CXT}{k:Nat}{f C:V8}{fd:V6}{ps ks:VS}{sp:Sp}{E:XK}{x m:Str}{p pos apos MN:Pos}{e o:V9}{es:VU}{kws:List Keyword}{te ta:TE}{t tk:TA}{nm:Option Str}
structure KBinds(K:PySem.W.Frag)(fd:FuncData)(ps ks:List Str)(g:List Value->List Value->List Value)(gV:List V->List V->List V):Prop where
 to:∀(s:Shared)(us ws:List Value),K.In s.heap->(g us ws).length=ps.length->BindsTo s fd ⟨us,ks.zip ws⟩ (ps.zip (g us ws))
 rel:∀{vs:List V}{us:List Value}{zs:List V}{ws:List Value},aw vs us->aw zs ws->aw (gV vs zs) (g us ws)
variable {g:VP->VP->VP}{gV:Wh->Wh->Wh}
end
structure bY(N P:List Str)(sc:Scope):Prop where
 kind:sc.kind=.function
 co:sc.isCoroutine=false
 gen:sc.isGenerator=false
 nd:N.Nodup
 pre:N.take P.length=P
 par:∀x∈P,sc.names.lookup x=some .local\/sc.names.lookup x=some .cell
 nofree:∀y∈sc.names,y.2≠.free
theorem pj{kindOf:Str->Option NameKind}{x:Str}:∀{binds:List (Str×V0)}{m:VL},(∀v,(x,v)∉binds)->bindL kindOf binds m x=m x
 | [],_,_=>rfl
 | (n,v)::r,m,h=>by
  unfold bindL;rw[pj λw hw=>h w (d_ _ hw)]
  split
  .have:x≠n:=by rintro rfl;exact h v f_
   simp[this]
  .rfl
theorem oV{kindOf:Str->Option NameKind}{x:Str}:∀{binds:List (Str×V0)}{m:VL},(∀v,(x,v)∉binds)->bindC kindOf binds m x=m x
 | [],_,_=>rfl
 | (n,v)::r,m,h=>by
  unfold bindC;rw[oV λw hw=>h w (d_ _ hw)]
  split
  .rfl
  .have:x≠n:=by rintro rfl;exact h v f_
   simp[this]
theorem pA{kindOf:Str->Option NameKind}{x:Str}{v:V0}:∀{P:VS}{vs:VP}{i:Nat}{m:VL},P.Nodup->P[i]?=some x->vs[i]?=some v->kindOf x=some .local->
  bindL kindOf (P.zip vs) m x=some v
 | [],_,_,_,_,h,_,_=>by simp at h
 | _::_,[],_,_,_,_,h,_=>by simp at h
 | p::P,w::vs,0,m,nd,h1,h2,hk=>by
  simp at h1 h2;subst h1;subst h2;show bindL kindOf ((p,w)::P.zip vs) m p=_;unfold bindL;rw[pj λv hv=>(I_.mp nd).1 (U0 hv).1,i_ hk];simp
 | p::P,w::vs,i+1,m,nd,h1,h2,hk=>by
  show bindL kindOf ((p,w)::P.zip vs) m x=_;unfold bindL;exact pA (i:=i) (I_.mp nd).2 (by simpa using h1) (by simpa using h2) hk
theorem o9{kindOf:Str->Option NameKind}{x:Str}{v:V0}:∀{P:VS}{vs:VP}{i:Nat}{m:VL},P.Nodup->P[i]?=some x->vs[i]?=some v->kindOf x≠some .local->
  bindC kindOf (P.zip vs) m x=some v
 | [],_,_,_,_,h,_,_=>by simp at h
 | _::_,[],_,_,_,_,h,_=>by simp at h
 | p::P,w::vs,0,m,nd,h1,h2,hk=>by
  simp at h1 h2;subst h1;subst h2;show bindC kindOf ((p,w)::P.zip vs) m p=_;unfold bindC;rw[oV λv hv=>(I_.mp nd).1 (U0 hv).1,j_ hk];simp
 | p::P,w::vs,i+1,m,nd,h1,h2,hk=>by
  show bindC kindOf ((p,w)::P.zip vs) m x=_;unfold bindC;exact o9 (i:=i) (I_.mp nd).2 (by simpa using h1) (by simpa using h2) hk
def start(N:VS)(vs:Wh):St:=vs.map some++List.replicate (N.length-vs.length) none
def gE(CX:CXT)(P:V2)(w:V5)(K:VZ)(mg:VL)(base:V4)(N:VS)(qual:Str)(scope:V7)(f:V8)(cd:V0)(A:V3)(outer:List Env)(s:V1)(H:Hp)(E:XK):Cx where
 prog:=P
 w:=w
 K:=K
 mg:=mg
 base:=base
 A:=A.deeper (envOfC qual scope s.heap.objs.size f cd)
 N:=N
 s₀:=s
 H₀:=H
 env:=envOfC qual scope s.heap.objs.size f cd
 outer:=outer
 stack:=envOfC qual scope s.heap.objs.size f cd::outer
 ex:=[]
 calm:=true
 fn:=λ_=>true
 pn:=[]
 xe:=λe s'=>wpAny (model P w) (A.deeper (envOfC qual scope s.heap.objs.size f cd)) (leaving (envOfC qual scope s.heap.objs.size f cd) e) (λ_ Pl=>CX outer H s E e Pl) (λe' Pl=>CX outer H s E e' Pl) s'
theorem sC{sc:V7}{n:Nat}{x:Str}(h:sc.names.lookup x=some .cell):∃c,(cellsFrom n sc.names []).lookup x=some c:=by
 have q:=PySem.W.cellsFrom_some sc.names n [] (.inl h);exact Option.isSome_iff_exists.mp q
theorem yr{CX:CXT}{P:V2}{w:V5}{K:VZ}{mg:VL}{base:V4}{N ps:VS}{qual:Str}{scope:V7}{f:V8}{cd:V0}{A:V3}{outer:List Env}{s s1:V1}{H:Hp}{E:XK}{us:VP}{vs:Wh}
  (S:bY N ps scope) (hd:A.handled=none) (e0:zI P w K mg base A outer s H) (hl:vs.length=ps.length) (r:aw vs us)
  (x:InCallC s s.heap.objs.size (bindL (envOfC qual scope s.heap.objs.size f cd).kindOf (ps.zip us) λ_=>none) (cellsFrom (s.heap.objs.size+1) scope.names []) (bindC (envOfC qual scope s.heap.objs.size f cd).kindOf (ps.zip us) λ_=>none) s1) :
  Inv (gE CX P w K mg base N qual scope f cd A outer s H E) [] (start N vs) H s1:=by
 have fL:ps.length<=N.length:=by have:=S0 List.length S.pre;rw[Uk]at this;lia
 obtain⟨h1,tk,rfl,hk⟩:=x.done;have Dq:∀b:V8,b∉(gE CX P w K mg base N qual scope f cd A outer s H E).ex:=λb z=>absurd (show b∈([]:VT)from z) (by simp);refine⟨⟨e0.mod,S.kind,rfl,rfl,l_ _,λy z c h1 h2=>?_,λy hy=>?_,λy c _ h=>?_,λ_=>hd,Around.frames_deeper e0.frames,.inr ⟨rfl,rfl⟩,λb z=>absurd z (Dq b),e0.bs,e0.bsz,λb _ _=>Dq b,λb z=>absurd z (Dq b),e0.funs,e0.frf,e0.tb⟩,
  rfl,e0.bare,Un.kept hk,⟨_,x.toInCall.ns,λi y v h1 h2 h3=>?_⟩,λy c h=>⟨_,x.cell y c h⟩,e0.hok.fresh (l_ _),λy c h=>?_,λp hp=>absurd (show p∈([]:VI)from hp) (by simp),e0.hok.kept hk,?_⟩
 .exact name_of_addr x.apart (Sl h1) (Sl h2)
 .have hy:scope.names.lookup y=some .cell\/scope.names.lookup y=some .free:=hy;rcases hy with hy | hy
  .exact sC hy
  .exact absurd rfl (S.nofree _ (Sl hy))
 .exact TX (x.above y c (Sl h))
 .have hi:i<vs.length:=by
   unfold start at h2
   by_cases hi:i<vs.length
   .exact hi
   .rw[q_ (by simpa using hi)]at h2;rw[Sn]at h2
    split at h2<;>cases h2
  have ha:vs[i]?=some v:=by
   unfold start at h2;rw[D_ (by simpa using hi),u_]at h2;cases e:vs[i]? with
   | none=>rw[e]at h2;cases h2
   | some a=>rw[e]at h2;cases h2;rfl
  obtain⟨u,hu,rv⟩:=r.get ha;have hp:ps[i]?=some y:=by
   rw[<- S.pre,List.getElem?_take_of_lt (by lia)];exact h1
  have Re:ps.Nodup:=by rw[<- S.pre];exact S.nd.sublist (List.take_sublist _ _)
  refine⟨u,rv,?_⟩;rcases S.par y (F_ hp)with k | k
  .exact .inl ⟨k,pA Re hp hu k⟩
  .obtain⟨c,e⟩:=sC (n:=s.heap.objs.size+1) k;refine .inr ⟨.inl k,c,e,?_⟩;have q:=x.cell y c e;rw[o9 Re hp hu (by show scope.names.lookup y≠_;rw[k];decide)]at q;exact q
 .exact e0.hok.fresh (TX (x.above y c (Sl h)))
 .unfold start;show _=N.length;rw[h_,c_,Sy]
  lia
theorem Ag{CX:CXT}{P:V2}{w:V5}{K:VZ}{mg:VL}{base:V4}{k:Nat}{f:V8}{name qual:Str}{params:Arguments}{body:VV}{scope:V7}{dV kV doc pm bP ct oc:V0}{an od:VR}
  {zS:VJ} {N ps:VS} {sp:Sp} (lk:K.lookup f=some ⟨oc,od,.func (PySem.W.fnOf name qual params body scope dV kV doc pm an bP ct),zS⟩) (eM:PySem.W.codeIn K bP qual=true) (S:bY N ps scope)
  (len:∀vs H Q E,sp vs H Q E->vs.length=ps.length)
  (hbody:∀(A:V3)(outer:List Env)(s:V1)(H:Hp)(vs:Wh)(Q:VK)(E:XK),bo k (A.deeper (envOfC qual scope s.heap.objs.size f bP))->sp vs H Q E->
   ∃t,iG (gE CX P w K mg base N qual scope f bP A outer s H E) body t/\t {nx:=λ_ H'=>Q .non H',rt:=Q} (start N vs) H) :
  dM P w K mg base CX (k+1) f (PySem.W.fnOf name qual params body scope dV kV doc pm an bP ct) ps sp:=by
 refine⟨len,λA outer s H args us vs Q E hr e0 hb r hsp=>?_⟩;have hl:=len _ _ _ _ hsp;have KX:K.In s.heap:=e0.mod.kin.keeps λb o e=>(e0.bs b o e).1;have lim:s.heap.NoLimit:=e0.mod.nolimit.keeps λb o e=>(e0.bs b o e).1;have bE:∀y∈ps.zip us,scope.names.lookup y.1=some .local\/(scope.names.lookup y.1=some .cell/\((cellsFrom (s.heap.objs.size+1) scope.names []).lookup y.1).isSome=true):=λ⟨n,v⟩ hy=>by
  rcases S.par n (U0 hy).1 with q | q
  .exact .inl q
  .exact .inr ⟨q,PySem.W.cellsFrom_some _ _ _ (.inl q)⟩
 refine codeAny_call_function hr.depth (KX _ _ lk) rfl S.co S.gen rfl (PySem.W.codeRec_of KX eM) (hb _ _ _ _ ?_);refine wpAny_newFunctionEnv_cells S.kind bE λenv he s1 x=>?_;subst he;refine⟨lim.keeps x.toInCall.keep,codeAny_func ?_⟩;obtain⟨t,ht,hq⟩:=hbody A outer s H vs Q E (hr.deeper _) hsp;have I:Inv (gE CX P w K mg base N qual scope f bP A outer s H E) [] (start N vs) H s1:=yr S hr.hd e0 hl r x;refine Sx (ht [] s1 (start N vs) H _ I hq) (λfl s' hs=>?_) λe s' hs=>hs;have fin:∀{σ':St}{H':Hp}{v:V}{u:V0},Inv (gE CX P w K mg base N qual scope f bP A outer s H E) [] σ' H' s'->RelV v u->Q v H'->CE outer P w H s Q u s':=
  λ{σ' H' v u} J rv q=>⟨v,H',J.os,J.bare,J.base,J.hok,rv,q⟩
 cases fl with
 | ret u=>
  obtain⟨v,σ',H',J,rv,q⟩:=hs;exact fin J rv q
 | next=>
  obtain⟨σ',H',J,q⟩:=hs;exact fin (v:=V.non) (u:=Value.none) J rfl q
 | brk=>
  obtain⟨_,_,_,q⟩:=hs;exact False.elim q
 | cont=>
  obtain⟨_,_,_,q⟩:=hs;exact False.elim q
section
variable {X:Cx}{x:Str}{p pos:Pos}{e:V9}{es:VU}{t:TA}{id T:String}{r:Wh->Hp->VK->Prop}
def NP(r:Wh->Hp->VK->Prop)(t:TA):TE:=λσ H Q=>t σ H λvs H1=>r vs H1 Q
theorem jL(hc:dv X (.builtin id) r)(hg:Gl X x)(hm:X.mg x=none)(hv:bootBuiltins x=some (.builtin id))(ha:PA X (e::es) t)(hn:x≠"__name__":=by decide)(nC:(x==("__debug__":Str))=false:=by decide)
  (he:starEach (e::es) X.env=(false,eval e X.env)::starEach es X.env:=by rfl) (fL:(backTo pos (starEach es X.env)).any (·.1)=false:=by rfl):PE X (.Call (.Name x p) (e::es) [] pos) (NP r t):=by
 intro pins s σ H Q I h;refine T1 (jg I hg hm hv ?_ hn nC);exact PyProof.Rows.callWith_builtin1 (bB (ha pos pins s σ H _ I h) λus s1 ⟨vs,H1,I1,r1,q1⟩=>hc pins s1 σ H1 vs us Q I1 r1 q1) he fL
theorem yx(hc:dv X (.type T) r)(hg:Gl X x)(hm:X.mg x=none)(hv:bootBuiltins x=some (.type T))(ha:PA X (e::es) t)(hn:x≠"__name__":=by decide)(nC:(x==("__debug__":Str))=false:=by decide)
  (he:starEach (e::es) X.env=(false,eval e X.env)::starEach es X.env:=by rfl) (fL:(backTo pos (starEach es X.env)).any (·.1)=false:=by rfl):PE X (.Call (.Name x p) (e::es) [] pos) (NP r t):=by
 intro pins s σ H Q I h;refine T1 (jg I hg hm hv ?_ hn nC);exact Tb (bB (ha pos pins s σ H _ I h) λus s1 ⟨vs,H1,I1,r1,q1⟩=>hc pins s1 σ H1 vs us Q I1 r1 q1) he fL
end
end L2
namespace HT
open PySem PyProof.Rows
theorem BQ(A:V3)(s:V1)(a:Int)(t:Tok)(c:Int)(u:Tok)(prog:V2)(w:V5)(E:VH)(Q:VH)(h:Q (.bool (decide (a<c))) s) :
  wpAny (model prog w) A (richCompare .Lt (.int a t) (.int c u)) Q E s:=
 (PyProof.Rows.lt_int h:wpAny (model prog w) A (compareOp .Lt (.int a t) (.int c u)) Q E s)
section
open PySem.SeqAt
open PySem.AutoSeq1 (wpAny_loadPart')
open PySem.MeetsSeq PySem.MeetsSeq2 PySem.MeetsSeq3
end
section
variable {prog:V2}{w:V5}{A:V3}{E:VH}{s:V1}
theorem Ek{t b:V8}{vs ws:VP}{Q:VH}(ht:IsTup s.heap t vs.toArray)(hb:IsTup s.heap b ws.toArray)(hv:vs≠[])
  (h1:ws=[]->Q (.ref t) s) (h2:ws≠[]->Q (.ref s.heap.objs.size) {s with heap:=s.heap.push {cls:=.type "tuple",data:=.seq (vs++ws).toArray}})
  (hsz:vs.length+ws.length<=sizeLine):wpAny (model prog w) A (binaryOp .Add (.ref t) (.ref b)) Q E s:=by
 obtain⟨⟨cls,dd,data,sl⟩,ho,hc,n,hd⟩:=id ht;obtain⟨⟨Jw,FP,data2,Dr⟩,Ds,r6,n2,hd2⟩:=id hb;simp only at hc hd r6 hd2;subst hc hd r6 hd2;have e:vs.toArray++ws.toArray=(vs++ws).toArray:=by simp
 by_cases hw:ws=[]
 .exact concat_meets ⟨_,ho,rfl⟩ ⟨_,Ds,rfl⟩ noFill_tuple_add seq_tuple_add UJ UD (Ut _ _)
   (tuple_addW1 t b vs.toArray ws.toArray n n2 dd FP sl Dr (by simpa using hv) (by simp[hw])) ⟨ho,Ds,h1 hw⟩
 .refine concat_meets ⟨_,ho,rfl⟩ ⟨_,Ds,rfl⟩ noFill_tuple_add seq_tuple_add UJ UD (Ut _ _)
   (tuple_addW2 t b vs.toArray ws.toArray n n2 dd FP sl Dr (by simpa using hv) (by simpa using hw) (by rw[t_,t_];exact hsz)) ⟨ho,Ds,?_⟩
  rw[e];exact h2 hw
def pH(n d:Nat):Option Int->Nat
 | none=>d
 | some v=>if v<0 then(v+(n:Int)).toNat else min v.toNat n
theorem uf(n d:Nat):pH n d none=d:=rfl
theorem xh(n d k:Nat):pH n d (some (k:Int))=min k n:=by
 show(if(k:Int)<0 then((k:Int)+(n:Int)).toNat else min (k:Int).toNat n)=min k n;rw[j_ (by lia),S7]
end
end HT
namespace L2
open PySem PySem.Spec PyProof.Rows
abbrev TO:=St->Hp->(Option Int->Hp->Prop)->Prop
def PO(X:Cx)(e:Option V9)(t:TO):Prop:=
 ∀(pins:VI)(s:V1)(σ:St)(H:Hp)(Q:Option Int->Hp->Prop),Inv X pins σ H s->t σ H Q->
  wpAny (model X.prog X.w) X.A (evalPart e X.env) (λu s'=>∃o H',Inv X pins σ H' s'/\IsPart u o/\Q o H') X.xe s
def tNoPart:TO:=λ_ H Q=>Q none H
def K2(t:TE):TO:=λσ H Q=>t σ H λx H1=>∃i,x=.int i/\Q (some i) H1
section
variable {X:Cx}{e:V9}{te:TE}{lo hi:Option V9}{tl th:TO}{pos p2:Pos}
theorem FF:PO X none tNoPart:=by
 intro pins s σ H Q I h;rw[evalPart_none];exact g_ ⟨none,H,I,.none,h⟩
theorem EC(h:PE X e te):PO X (some e) (K2 te):=by
 intro pins s σ H Q I hw;rw[evalPart_some];refine bB (h pins s σ H _ I hw) λu s1 az=>?_;obtain⟨x,H1,I1,r1,q1⟩:=az;obtain⟨i,rfl,q⟩:=q1;obtain⟨t,rfl⟩:=r1;exact⟨some i,H1,I1,.int i t,q⟩
def Q2(X:Cx)(r:V->Option Int->Option Int->Hp->VK->Prop):Prop:=
 ∀(pins:VI)(s:V1)(σ:St)(H:Hp)(x:V)(v vl vu:V0)(lo hi:Option Int)(sl:V8)(Q:VK),Inv X pins σ H s->RelV x v->s.heap.IsSliceOf sl vl vu .none->IsPart vl lo->IsPart vu hi->r x lo hi H Q->
  ∃T id,typeLookup (.type T) "__getitem__"=pure (some (.builtin id))/\s.TypeIs v T/\wpAny (model X.prog X.w) X.A (getItem v (.ref sl)) (EP X pins σ Q) X.xe s
def RZ(r:V->Option Int->Option Int->Hp->VK->Prop)(te:TE)(tl th:TO):TE:=λσ H Q=>te σ H λx H1=>tl σ H1 λl H2=>th σ H2 λu H3=>r x l u H3 Q
theorem BO{r:V->Option Int->Option Int->Hp->VK->Prop}(hr:Q2 X r)(he:PE X e te)(hl:PO X lo tl)(hu:PO X hi th):PE X (.Subscript e (.Slice lo hi none p2) pos) (RZ r te tl th):=by
 intro pins s σ H Q I h;refine Subscript_ (bB (he pins s σ H _ I h) λv s1 az=>?_);obtain⟨x,H1,I1,r1,q1⟩:=az;refine wpAny_Slice (bB (hl pins s1 σ H1 _ I1 q1) λvl s2 ⟨l,H2,I2,pl,q2⟩=>bB (hu pins s2 σ H2 _ I2 q2) λvu s3 az=>?_);obtain⟨u,H3,I3,pu,q3⟩:=az;rw[evalPart_none];refine g_ ?_;have I4:Inv X pins σ H3 {s3 with heap:=s3.heap.push {cls:=.type "slice",data:=.fields #[vl,vu,.none]}}:=I3.kept (t':=s3.toks) λb ob q=>e_ _ q;obtain⟨T,id,hT,ht,hg⟩:=hr pins {s3 with heap:=s3.heap.push {cls:=.type "slice",data:=.fields #[vl,vu,.none]}} σ H3 x v vl vu l u s3.heap.objs.size Q I4 r1 (Heap.IsSliceOf.new ..) pl pu q3;show wpAny (model X.prog X.w) X.A (subscriptTail e (.Slice lo hi none p2) v (.ref s3.heap.objs.size)) (EP X pins σ Q) X.xe {s3 with heap:=s3.heap.push {cls:=.type "slice",data:=.fields #[vl,vu,.none]}};exact tail_any (ops:=[.ref s3.heap.objs.size,v]) ht hT hg (by with_unfolding_all rfl)
def zr(xs:Wh)(lo hi:Option Int):Wh:=(xs.drop (HT.pH xs.length 0 lo)).take (HT.pH xs.length xs.length hi-HT.pH xs.length 0 lo)
theorem uu(xs:Wh)(lo hi:Option Int):(zr xs lo hi).length<=xs.length:=by
 unfold zr;rw[Uk,Ul]
 lia
def Lw(K:VZ):R2:=λx y H Q=>∃a b xs ys,x=.ref a/\y=.ref b/\c7 K H a xs/\c7 K H b ys/\xs≠[]/\xs.length+ys.length<=sizeLine/\
 (ys=[]->Q (.ref a) H)/\(ys≠[]->∀p,H p=none->Q (.ref p) (upd H p (.tup (xs++ys))))
theorem aw.nil_iff{xs:Wh}{us:VP}(r:aw xs us):us=[]↔xs=[]:=by
 cases r with
 | nil=>simp
 | cons _ _=>simp
theorem Fq:jn X (binaryOp .Add) (Lw X.K):=by
 intro pins s σ H x y v u Q I rx ry h;obtain⟨a,b,xs,ys,rfl,rfl,ha,hb,hx,hz,q1,q2⟩:=h;cases rx;cases ry;obtain⟨bu,r1,p1,_⟩:=I.tuple ha;obtain⟨uH,r2,p2,_⟩:=I.tuple hb;refine HT.Ek p1 p2 (λz=>hx (r1.nil_iff.mp z)) (λz=>⟨.ref a,H,I,rfl,q1 (r2.nil_iff.mp z)⟩) (λz=>?_) (by rw[<- r1.length,<- r2.length];exact hz);refine⟨.ref s.heap.objs.size,_,I.laid (t':=s.toks) (o:=.tup (xs++ys)) (λb ob q=>e_ _ q) (l_ _) ?_,rfl,q2 (λw=>z (r2.nil_iff.mpr w)) _ (I.hok.fresh (l_ _))⟩;exact⟨by rw[h_];exact hz,_,r1.append r2,IsTup.new _ _⟩
end
def Kb(n:Nat)(i:Int):Option Nat:=if 0<=i then(if i<n then some i.toNat else none)else if -(n:Int)<=i then some (i+n).toNat else none
def atI{α:Type}(xs:List α)(i:Int):Option α:=(Kb xs.length i).bind λj=>xs[j]?
theorem E9{n:Nat}{i:Int}{j:Nat}(h:Kb n i=some j):seqIndex? i n=some j/\j<n/\-(n:Int)<=i/\i<n:=by
 unfold Kb at h
 by_cases h0:0<=i
 .rw[i_ h0]at h
  by_cases h1:i<n
  .rw[i_ h1]at h;have e:i.toNat=j:=Option.some.inj h;exact⟨by rw[seqIndex_of h0 h1,e],by lia,by lia,h1⟩
  .rw[j_ h1]at h;cases h
 .rw[j_ h0]at h
  by_cases h1:-(n:Int)<=i
  .rw[i_ h1]at h;have e:(i+n).toNat=j:=Option.some.inj h;exact⟨by rw[seqIndex_neg (by lia) h1,e],by lia,h1,by lia⟩
  .rw[j_ h1]at h;cases h
theorem xM{α:Type}{xs:List α}{i:Int}{v:α}(h:atI xs i=some v):∃j,seqIndex? i xs.length=some j/\xs[j]?=some v/\j<xs.length/\-(xs.length:Int)<=i/\i<xs.length:=by
 unfold atI at h;cases e:Kb xs.length i with
 | none=>rw[e]at h;cases h
 | some j=>
  rw[e]at h;obtain⟨h1,h2,h3,h4⟩:=E9 e;exact⟨j,h1,h,h2,h3,h4⟩
def qW(b:V9):Prop:=∀o i,subscripted b false o i=operate [o,i] (getItem o i)
def HC(X:Cx)(r:R2):Prop:=
 ∀(value slice:V9)(pins:VI)(s:V1)(σ:St)(H:Hp)(x y:V)(v u:V0)(Q:VK),Inv X pins σ H s->RelV x v->RelV y u->r x y H Q->
  subscripted slice false v u=operate [v,u] (getItem v u)->wpAny (model X.prog X.w) X.A (subscriptTail value slice v u) (EP X pins σ Q) X.xe s
def QQ(X:Cx)(id:String)(r:V->Wh->Hp->VK->Prop):Prop:=
 ∀(pins:VI)(s:V1)(σ:St)(H:Hp)(x:V)(xs:Wh)(v:V0)(us:VP)(Q:VK),Inv X pins σ H s->RelV x v->aw xs us->r x xs H Q->
  wpAny (model X.prog X.w) X.A (call (.builtin id) (v::us)) (EP X pins σ Q) X.xe s
section
variable {X:Cx}{a b:V9}{ta tb:TE}{pos:Pos}
theorem HC.or{r r':R2}(h:HC X r)(h':HC X r'):HC X (λx y H Q=>r x y H Q\/r' x y H Q):=by
 intro value slice pins s σ H x y v u Q I rx ry q hs;rcases q with q | q
 .exact h value slice pins s σ H x y v u Q I rx ry q hs
 .exact h' value slice pins s σ H x y v u Q I rx ry q hs
theorem Gv{r:R2}(hr:HC X r)(ha:PE X a ta)(hb:PE X b tb)(hs:qW b):PE X (.Subscript a b pos) (HP r ta tb):=by
 intro pins s σ H Q I h;exact Subscript_ (HL ha hb I h λv u s2 x y H2 I2 rx ry q=>hr a b pins s2 σ H2 x y v u Q I2 rx ry q (hs _ _))
def Lu(K:VZ):R2:=λx y H Q=>∃p xs i v,x=.ref p/\y=.int i/\cW K H p xs/\atI xs i=some v/\Q v H
def L5(K:VZ):R2:=λx y H Q=>∃p xs i v,x=.ref p/\y=.int i/\c7 K H p xs/\atI xs i=some v/\Q v H
theorem wL:HC X (Lu X.K):=by
 intro value slice pins s σ H x y v u Q I rx ry h hs;obtain⟨p,xs,i,z,rfl,rfl,hq,he,q⟩:=h;cases rx;obtain⟨t,rfl⟩:=ry;obtain⟨bu,r,pl,hz⟩:=I.list hq;obtain⟨j,h1,h2,h3,h4,h5⟩:=xM he;obtain⟨w,ew,Jv⟩:=r.get h2;have hl:=r.length;have hn:=qT;have fin:EP X pins σ Q w s:=⟨z,H,I,Jv,q⟩
 by_cases h0:0<=i
 .have hj:i.toNat=j:=by
   rw[seqIndex_of h0 h5]at h1;exact Option.some.inj h1
  exact item_listR pl.isList h0 (by lia) (by rw[hj];simpa using ew) fin hs
 .have hj:(i+(bu.toArray.size:Int)).toNat=j:=by
   rw[seqIndex_neg (by lia) h4]at h1;rw[t_,<- hl];exact Option.some.inj h1
  exact subscriptTail_builtinR (x:=w) pl.isList.typeIs slot_list_getitem.lookup
   (wpAny_getItem_list_neg (Q:=λr s'=>r=w/\EP X pins σ Q r s') pl.isList (by lia) (by rw[t_]<;>lia) (by lia) (by rw[hj];simpa using ew) ⟨rfl,fin⟩) hs
theorem BF:HC X (L5 X.K):=by
 intro value slice pins s σ H x y v u Q I rx ry h hs;obtain⟨p,xs,i,z,rfl,rfl,hq,he,q⟩:=h;cases rx;obtain⟨t,rfl⟩:=ry;obtain⟨bu,r,pl,hz⟩:=I.tuple hq;obtain⟨j,h1,h2,h3,h4,h5⟩:=xM he;obtain⟨w,ew,Jv⟩:=r.get h2;have hl:=r.length;have hn:=qT;have fin:EP X pins σ Q w s:=⟨z,H,I,Jv,q⟩;exact subscriptTail_builtinR (x:=w) pl.typeIs slot_tuple_getitem.lookup
  (getItem_tuple (j:=j) (Q:=λr s'=>r=w/\EP X pins σ Q r s') pl (by lia) (by lia) (by rw[t_,<- hl];exact h1) (by simpa using ew) ⟨rfl,fin⟩) hs
theorem rE(lo hi:Option Int)(n:Nat):(sliceBounds lo hi none n).1=((HT.pH n 0 lo:Nat):Int)/\(sliceBounds lo hi none n).2.1=((HT.pH n n hi:Nat):Int)/\(sliceBounds lo hi none n).2.2=1:=by
 refine⟨?_,?_,rfl⟩
 .cases lo with
  | none=>simp[sliceBounds,HT.pH]
  | some i=>
   simp only[sliceBounds,HT.pH,Option.getD_none,show(1:Int)>0 by decide,TK]
   by_cases h:i<0
   .simp only[h,TK]<;>lia
   .simp only[h,SA]<;>lia
 .cases hi with
  | none=>simp[sliceBounds,HT.pH]
  | some i=>
   simp only[sliceBounds,HT.pH,Option.getD_none,show(1:Int)>0 by decide,TK]
   by_cases h:i<0
   .simp only[h,TK]<;>lia
   .simp only[h,SA]<;>lia
theorem n9(bu:VP)(lo hi:Option Int):slicePick bu.toArray lo hi none=((bu.drop (HT.pH bu.length 0 lo)).take (HT.pH bu.length bu.length hi-HT.pH bu.length 0 lo)).toArray:=by
 obtain⟨h1,h2,h3⟩:=rE lo hi bu.toArray.size;unfold slicePick;rw[h1,h2,h3];simp only[sliceRange_one,pick_run,t_]<;>rfl
def OA(K:VZ):V->Option Int->Option Int->Hp->VK->Prop:=λx lo hi H Q=>∃a xs,x=.ref a/\cW K H a xs/\∀p,H p=none->Q (.ref p) (upd H p (.lst (zr xs lo hi)))
theorem Fn:Q2 X (OA X.K):=by
 intro pins s σ H x v vl vu lo hi sl Q I rx hs pl pu h;obtain⟨a,xs,rfl,hx,q⟩:=h;cases rx;obtain⟨bu,r,ht,hz⟩:=I.list hx;have hlen:=r.length;refine⟨"list",_,slot_list_getitem.lookup,ht.isList.typeIs,?_⟩;refine wpAny_getItem_list_slice ht.isList hs pl pu .none (by simp) ?_ (by rw[t_]<;>lia);rw[n9,<- hlen];refine⟨.ref s.heap.objs.size,_,I.laid (t':=s.toks) (o:=.lst (zr xs lo hi)) (λb ob q=>e_ _ q) (l_ _) ?_,rfl,q _ (I.hok.fresh (l_ _))⟩;exact⟨M_ (uu xs lo hi) hz,_,0,(r.drop (HT.pH xs.length 0 lo)).take (HT.pH xs.length xs.length hi-HT.pH xs.length 0 lo),p_ _ rfl⟩
theorem qr:dv X (.builtin "len") (λxs H Q=>∃p ys,xs=[.ref p]/\(cW X.K H p ys\/c7 X.K H p ys)/\Q (.int ys.length) H):=by
 intro pins s σ H xs us Q I r h;obtain⟨p,ys,rfl,hq,q⟩:=h;obtain⟨u,rfl,rx⟩:=vals1 r;cases rx;have hn:=qT;rcases hq with hq | hq
 .obtain⟨bu,r',pl,hz⟩:=I.list hq;have hlen:=r'.length;exact Calls.call_len_list pl.isList (by simp only[t_]<;>lia) ⟨.int ys.length,H,I.tok _,⟨s.toks+1,by rw[t_,hlen]⟩,q⟩
 .obtain⟨bu,r',pl,hz⟩:=I.tuple hq;have hlen:=r'.length;exact len_tuple pl (by simp only[t_]<;>lia) ⟨.int ys.length,H,I.tok _,⟨s.toks+1,by rw[t_,hlen]⟩,q⟩
theorem qK:dv X (.type "list") (λxs H Q=>∃p ys,xs=[.ref p]/\(cW X.K H p ys\/c7 X.K H p ys)/\∀l,H l=none->Q (.ref l) (upd H l (.lst ys))):=by
 intro pins s σ H xs us Q I r h;obtain⟨p,ys,rfl,hq,q⟩:=h;obtain⟨u,rfl,rx⟩:=vals1 r;cases rx;have fin:∀(bu:VP),aw ys bu->ys.length<=sizeLine->∀(h':V4)(c':Nat),(∀b o',s.heap.get? b=some o'->h'.get? b=some o')->
   h'.get? s.heap.objs.size=some {cls:=.type "list",dict:=none,data:=.seq bu.toArray c',slots:=#[]}->EP X pins σ Q (.ref s.heap.objs.size) {s with heap:=h'}:=λbu r' hz h' c' kp e=>
  ⟨.ref s.heap.objs.size,_,I.laid (t':=s.toks) kp (l_ _) (show bp X.prog X.w _ h' _ (.lst ys)from⟨hz,bu,c',r',e⟩),rfl,q _ (I.hok.fresh (l_ _))⟩
 rcases hq with hq | hq
 .obtain⟨bu,r',pl,hz⟩:=I.list hq;have hlen:=r'.length;obtain⟨o,ho,hc,n,hd⟩:=pl.isList;exact call_list_seq p (.inl rfl) ho hc hd (λh' c' kp e=>fin bu r' hz h' c' kp e) (by simp only[t_]<;>lia)
 .obtain⟨bu,r',pl,hz⟩:=I.tuple hq;have hlen:=r'.length;obtain⟨o,ho,hc,n,hd⟩:=pl;exact call_list_seq p (.inr rfl) ho hc hd (λh' c' kp e=>fin bu r' hz h' c' kp e) (by simp only[t_]<;>lia)
def QZ(K:VZ)(T:String)(x:V)(H:Hp):Prop:=match x with
 | .str _=>T="str"
 | .int _=>T="int"
 | .ref p=>(T="list"/\∃xs,cW K H p xs)\/(T="tuple"/\∃o,K.lookup p=some o/\o.cls=.type "tuple"/\o.dict=none)\/
   (T="dict"/\((∃kvs,H p=some (.dK kvs))\/∃kvs,H p=some (.dT kvs)))\/(T="set"/\∃S n,H p=some (.set S n))
 | _=>False
theorem HV{pins:VI}{σ:St}{H:Hp}{s:V1}{T:String}{x:V}{v:V0}(I:Inv X pins σ H s)(r:RelV x v)(ty:QZ X.K T x H) :
  s.TypeIs v T/\∀a,v=.ref a->∃ob,s.heap.get? a=some ob/\ob.dict=none:=by
 cases x with
 | str z=>
  obtain⟨t,rfl⟩:=r;cases(show T="str" from ty);exact⟨typeIs_str s z t,λ_ e=>nomatch e⟩
 | int i=>
  obtain⟨t,rfl⟩:=r;cases(show T="int" from ty);exact⟨typeIs_int s i t,λ_ e=>nomatch e⟩
 | ref p=>
  cases r;rcases ty with ⟨rfl,xs,hq⟩ | ⟨rfl,o,hk,hc,hd⟩ | ⟨rfl,hk⟩ | ⟨rfl,S,n,hk⟩
  .obtain⟨bu,_,pl,_⟩:=I.list hq;refine⟨pl.isList.typeIs,λa e=>?_⟩;cases e;obtain⟨o,n,e,c,hd,_⟩:=pl;exact⟨o,e,hd⟩
  .refine⟨⟨o,I.kIn p o hk,hc⟩,λa e=>?_⟩;cases e;exact⟨o,I.kIn _ o hk,hd⟩
  .have z:∃o,s.heap.get? p=some o/\o.ExactDict:=by
    rcases hk with ⟨kvs,hk⟩ | ⟨kvs,hk⟩
    .obtain⟨_,_,_,_,o,_,_,e,ex,_⟩:=I.hok p _ hk;exact⟨o,e,ex⟩
    .obtain⟨_,_,_,_,o,_,_,e,ex,_⟩:=I.hok p _ hk;exact⟨o,e,ex⟩
   obtain⟨o,e,ex⟩:=z;refine⟨⟨o,e,ex.1⟩,λa e2=>?_⟩;cases e2;exact⟨o,e,ex.2.1⟩
  .obtain⟨o,_,_,_,e,ex,_⟩:=I.hok p _ hk;refine⟨⟨o,e,ex.1⟩,λa e2=>?_⟩;cases e2;exact⟨o,e,ex.2.1⟩
 | _=>exact False.elim ty
def RM(K:VZ)(T:String)(r:V->Wh->Hp->VK->Prop)(to:TE)(t:TA):TE:=λσ H Q=>to σ H λx H1=>QZ K T x H1/\t σ H1 λxs H2=>r x xs H2 Q
variable {o e:V9}{es:VU}{to:TE}{t:TA}{name:Str}{apos bA:Pos}{T id:String}{r:V->Wh->Hp->VK->Prop}
theorem pG(pa:PlainAttrs T)(slot:Slot T name id)(hty:typeOf (.builtin id)=pure (.type "method_descriptor"))(hm:QQ X id r)(ho:PE X o to)(ha:PA X (e::es) t)
  (fM:attributeBase o name X.env (eval o X.env)=eval o X.env:=by rfl)
  (kG:((backTo bA (starEach (e::es) X.env)).all (λx=>!x.1)&&(backToKw bA (keywordEach [] X.env)).all (λx=>x.1.isSome)
   && decide ((e::es).length+([]:List Keyword).length+(if([]:List Keyword).isEmpty then 0 else 1)<30))=true:=by rfl)
  (fN:(apos.endLine==bA.line)=true:=by rfl) (hs:starEach (e::es) X.env=(false,eval e X.env)::starEach es X.env:=by rfl) (hplain:(backTo bA (starEach es X.env)).any (·.1)=false:=by rfl) :
  PE X (.Call (.Attribute o name apos) (e::es) [] bA) (RM X.K T r to t):=by
 intro pins s σ H Q I h;refine wpAny_Call_method_late fM kG fN rfl (bB (ho pins s σ H _ I h) λv s1 az=>?_);obtain⟨x,H1,I1,r1,ty,q1⟩:=az;obtain⟨h1,h2⟩:=HV I1 r1 ty;refine⟨T,id,pa,slot,hty,h1,h2,?_⟩;have hA:=ha bA pins s1 σ H1 _ I1 q1;rw[hs]at hA ⊢;refine Calls.callWith_builtin (by show(false||(backTo bA (starEach es X.env)).any (·.1))=false;rw[hplain]<;>rfl) (Calls.evalArgs_plain ?_);exact bB hA λus s2 ⟨vs,H2,I2,r2,q2⟩=>hm pins s2 σ H2 x vs v us Q I2 r1 r2 q2
end
def O4(X:Cx)(id:String)(r:V->Wh->Hp->VK->Prop):Prop:=
 ∀(pins:VI)(s:V1)(σ:St)(H:Hp)(x:V)(xs:Wh)(v:V0)(us:VP)(Q:VK),Inv X pins σ H s->RelV x v->aw xs us->r x xs H Q->
  wpAny (model X.prog X.w) X.A (call (.builtin id) (v::us)) (EP X pins σ Q) X.xe s
theorem aw.one:∀{x:V}{us:VP},aw [x] us->∃u,us=[u]/\RelV x u
 | _,_,.cons r .nil=>⟨_,rfl,r⟩
theorem aw.two:∀{x y:V}{us:VP},aw [x,y] us->∃u v,us=[u,v]/\RelV x u/\RelV y v
 | _,_,_,.cons r (.cons q .nil)=>⟨_,_,rfl,r,q⟩
section
variable {X:Cx}{pins:VI}{σ:St}{H:Hp}{s:V1}{l b:V8}{xs ys zs:Wh}
theorem Inv.lset{bu its':VP}{n:Nat}{f:Array V0->Array V0}{t':Nat}(I:Inv X pins σ H s)(hH:H l=some (.lst xs))
  (e:s.heap.get? l=some {cls:=.type "list",data:=.seq bu.toArray n}) (hf:f bu.toArray=its'.toArray) (hv:aw ys its') (hz:ys.length<=sizeLine) :
  Inv X pins σ (upd H l (.lst ys)) {s with heap:=s.heap.update l (Obj.mapSeq f),toks:=t'}:=by
 have q:=PySem.IsL.update e f;rw[hf]at q;refine I.write (x:=l) (e:=l) (by rw[hH];exact trivial) (.inl rfl) (λb' u hb hu=>(Heap.get?_update_other s.heap (Obj.mapSeq f) (SR hb)).trans hu) ⟨_,q⟩ ?_;exact⟨hz,its',_,hv,q⟩
theorem Inv.lnew{bu:VP}{t':Nat}(I:Inv X pins σ H s)(hv:aw ys bu)(hz:ys.length<=sizeLine) :
  Inv X pins σ (upd H s.heap.objs.size (.lst ys)) {s with heap:=s.heap.push {cls:=.type "list",data:=.seq bu.toArray},toks:=t'}:=
 I.laid (λ_ _ q=>e_ _ q) (l_ _) ⟨hz,bu,0,hv,p_ _ rfl⟩
theorem Inv.fresh(I:Inv X pins σ H s):H s.heap.objs.size=none:=I.hok.fresh (l_ _)
theorem Inv.lstM(I:Inv X pins σ H s)(hH:H l=some (.lst xs)):xs.length<=sizeLine/\∃(bu:VP)(n:Nat),aw xs bu/\xs.length=bu.length/\s.heap.get? l=some {cls:=.type "list",data:=.seq bu.toArray n}:=by
 obtain⟨z,bu,n,r,e⟩:=I.hok l _ hH;exact⟨z,bu,n,r,r.length,e⟩
theorem su{n:Nat}(h:n<=sizeLine):Builtin.List.listTooLong n=false:=by
 unfold Builtin.List.listTooLong;exact R_ (by lia)
end
section
variable {X:Cx}
def rAppend:V->Wh->Hp->VK->Prop:=λx vs H Q=>∃l xs y,x=.ref l/\vs=[y]/\H l=some (.lst xs)/\xs.length<sizeLine/\Q .non (upd H l (.lst (xs++[y])))
theorem iw:O4 X "list.append" rAppend:=by
 intro pins s σ H x vs v us Q I rx rv h;obtain⟨l,xs,y,rfl,rfl,hH,hz,q⟩:=h;cases rx;obtain⟨u,rfl,ru⟩:=rv.one;obtain⟨z,bu,n,r,hl,e⟩:=I.lstM hH;refine VE F.slot_list_append ⟨_,e,rfl⟩ F.entry_list_append (F.args_list_append_2 _ _) (PySem.list_append l bu.toArray n u (by rw[t_];lia)) ⟨e,?_⟩;refine⟨.non,_,I.lset (its':=bu++[u]) hH e (by simp) (r.append (.cons ru .nil)) ?_,rfl,q⟩;rw[h_,Si]
 lia
def rExtend:V->Wh->Hp->VK->Prop:=λx vs H Q=>∃l b xs zs,x=.ref l/\vs=[.ref b]/\H l=some (.lst xs)/\H b=some (.lst zs)/\xs.length+zs.length<=sizeLine/\Q .non (upd H l (.lst (xs++zs)))
theorem y9:O4 X "list.extend" rExtend:=by
 intro pins s σ H x vs v us Q I rx rv h;obtain⟨l,b,xs,zs,rfl,rfl,hH,hB,hz,q⟩:=h;cases rx;obtain⟨u,rfl,ru⟩:=rv.one;cases ru;obtain⟨z,bu,n,r,hl,e⟩:=I.lstM hH;obtain⟨z2,uH,n2,r2,hl2,e2⟩:=I.lstM hB;have hsz:bu.toArray.size+uH.toArray.size<=sizeLine:=by rw[t_,t_];lia
 have CV:¬(!bu.toArray.isEmpty&&Builtin.List.listTooLong (bu.toArray.size+uH.toArray.size))=true:=by
  rw[su hsz,Va];exact Sf
 refine VE F.slot_list_extend ⟨_,e,rfl⟩ F.entry_list_extend (F.args_list_extend_2 _ _)
  (AutoSeq1.list_extend_list_list_0 l bu.toArray n b uH.toArray n2 CV (by rw[t_];lia) (by lia)) ⟨e,e2,?_⟩
 refine⟨.non,_,I.lset (its':=bu++uH) hH e (by simp) (r.append r2) ?_,rfl,q⟩;rw[h_]
 lia
end
section
variable {prog:V2}{w:V5}{A:V3}{E:VH}{s:V1}
end
section
variable {X:Cx}
end
end L2
namespace Att
open PySem PySem.W PySem.Calls PyProof.Rows
theorem ly{P:Params}{h:V4}:∀(ns:VX)(vs:VP),WellAll P h vs (ns.map WData.int)->IntsAre vs ns:=by
 intro ns
 induction ns with
 | nil=>
  intro vs w;rw[TV]at w;cases w;exact .nil
 | cons n ns ih=>
  intro vs w;rw[B_]at w;cases w with
  | cons a b=>
   cases a;exact .cons _ _ (ih _ b)
theorem yb{l:OpenLaw}{n:Nat}(hn:l.most=some n){P:Params}{h:V4}{args:List WData}{vals:VP}
  (ou:l.row.toRowW.claim.pre args=true) (Pm:WellAll P h vals args) :
  ∃a vs ns,vals=[Value.ref a]/\args=[WData.list (ns.map WData.int)]/\h.get? a=some {cls:=.type "list",data:=.seq vs.toArray}/\IntsAre vs ns/\ns.length<=n:=by
 have hsh:WShape.hasAll [] args [.list .int]=true:=(pre_splitW ou).1;have hc:l.pre.holds [] {args:=args}=true:=(pre_splitW ou).2;obtain⟨d,r,rfl,h1,h2⟩:=hasAllW_cons hsh;obtain rfl:=hasAllW_nil h2;obtain⟨xs,rfl,h3⟩:=hasW_list h1;obtain⟨ns,rfl⟩:=items_int h3;have hlen:ns.length<=n:=by
  unfold OpenLaw.pre at hc;have h4:(WTm.not (.lt (.lit (.int (n:Int))) (.len (.arg 0)))).holds [] {args:=[.list (ns.map .int)]}=true:=by
   have h4:=(holds_andW hc).1;rw[hn]at h4;exact h4
  have h5:=condW_of h4 (w_not (w_lt w_lit (w_len_list (w_arg rfl))));rw[c_]at h5;refine Ss λq=>?_;have q':(n:Int)<((ns.length:Nat):Int):=by lia
  first
   | (rw[x_ q']at h5;exact absurd h5 (by decide))
   | (simp at h5;lia)
 cases Pm with
 | cons w1 w2=>
  cases w2;cases w1 with
  | list ho iM=>exact⟨_,_,ns,rfl,rfl,ho,ly ns _ iM,hlen⟩
theorem yX(l:OpenLaw)(args:List WData):l.row.toRowW.claim.post args (.bool true) args=true:=
 postW_of (r:=l.row.toRowW) (X:=(true==true))
  (show WShape.has [] (.bool true) .bool=true by first | rfl | decide | simp[WShape.has,WShape.arms,WShape.armsAll])
  (show(WTm.eq .res (.lit (.bool true))).value [] {args:=args,res:=some (.bool true),after:=args}=some (.bool (true==true))from w_eq_bool (w_res rfl) w_lit) rfl
theorem tU{l:OpenLaw}{n:Nat}{q:V2}{loose:VS}{XP:VL->V4->Prop}{YP:V5->V4->Prop}{d:DefRec}
  (hn:l.most=some n) (MO:d.params.defaults=[])
  (call:∀(w:V5)(s₀ s₁:V1)(mg mb:VL)(fa:V8)(o:Obj)(pm cd doc:V0)(a:V8)(vs:VP)(ns:VX),
   Ground q loose [] XP w s₀ mg mb s₁.heap->YP w s₁.heap->
   s₁.heap.get? fa=some o->o.data=.func (docDef d.name d.params d.body d.scope pm cd doc)->s₁.heap.CodeRec cd d.name->mg d.name=some (.ref fa)->
   s₁.heap.get? a=some {cls:=.type "list",data:=.seq vs.toArray}->IntsAre vs ns->ns.length<=n->s₁.gens=#[]->
   codeAny (model l.prog w) callerA (.call (.ref fa) ⟨[.ref a],[]⟩) (λr s'=>r=.ok (.ret (.bool true))/\OldK s₁.heap s'.heap/\s'.os=s₁.os/\AllBare s'.gens) s₁) :
  WalkO q loose XP YP l.row.toRowW d [] (λf vs=>PySem.call f vs):=by
 intro w s₀ s₁ mg mb G Y fa o pm cd doc dV kV ho hd eM hD hmg hg args vals as ou hlay hrd Pm hlo;obtain rfl:dV=.none:=Dflts.none hD MO;obtain rfl:kV=.none:=Dflts.noKw hD;obtain⟨a,vs,ns,rfl,rfl,Jx,hints,hlen⟩:=yb hn ou Pm;refine enter_call (Uj (call w s₀ s₁ mg mb fa o pm cd doc a vs ns G Y ho (fd_plain hd) eM hmg Jx hints hlen hg) λr s' hq=>?_);obtain⟨rfl,h2,h3,h4⟩:=hq;exact⟨.inl ⟨.bool true,.bool true,[],rfl,λ_=>rfl,.bool true,yX l _,λ_=>⟨List.Pairwise.nil,λ_ hm=>(nomatch hm)⟩⟩,h2,h3,h4⟩
section
variable {prog:V2}{w:V5}{A:V3}{E:VH}{s:V1}{K:Frag}
end
end Att
namespace L2
open PySem PySem.Spec PyProof.Rows
theorem fD:∀{vs:VP}{ns:VX},IntsAre vs ns->aw (ns.map V.int) vs
 | _,_,.nil=>.nil
 | _,_,.cons n t h=>.cons ⟨t,rfl⟩ (fD h)
def Jk(H:Hp):Prop:=∀b,H b=none\/(∃o xs,H b=some (.frz o (.lst xs)))\/∃q,H b=some (.tab q)
theorem AR{P:V2}{w:V5}{K:VZ}{mg mb:VL}{CX:CXT}{k:Nat}{fa a:V8}{fd:V6}{x:Str}{sp:Sp}{s₁:V1}{vs:VP}{ns:VX}
  (KX:K.In s₁.heap) (wg:s₁.heap.Ns mainGlobals mg) (hb:s₁.heap.Ns builtinsNs mb) (MP:∀x:Str,x≠"__name__"->mb x=bootBuiltins x) (hlim:s₁.heap.NoLimit) (hg:s₁.gens=#[])
  (hbm:∃bm o,mg "__builtins__"=some (.ref bm)/\bm≠builtinsNs/\s₁.heap.get? bm=some o/\o.cls=.type "module"/\o.dict=some builtinsNs/\o.data=.plain)
  (hT:∀P q,tq K P=some q->(∃c,PySem.W.CodeHd s₁.heap c P)/\s₁.heap.get? P=some (PySem.W.tabObj #[])/\K.lookup P=none)
  (ha:s₁.heap.get? a=some {cls:=.type "list",data:=.seq vs.toArray}) (hi:IntsAre vs ns) (hl:ns.length<=sizeLine) (hr:bo k callerA)
  (F:∀base:V4,K.In base->base.Ns mainGlobals mg->dM P w K mg base CX k fa fd [x] sp) (hbind:∀(s:V1)(u:V0),BindsTo s fd ⟨[u],[]⟩ [(x,u)])
  (hsp:∀H:Hp,Jk H->cW K H a (ns.map V.int)->sp [.ref a] H (λv _=>v=.bl true) λ_ _ _=>False)
  (hCX:∀H e s',CX [] H s₁ (λ_ _ _=>False) e s'->False) :
  codeAny (model P w) callerA (.call (.ref fa) ⟨[.ref a],[]⟩) (λr s'=>r=.ok (.ret (.bool true))/\OldK s₁.heap s'.heap/\s'.os=s₁.os/\AllBare s'.gens) s₁:=by
 have rv:=fD hi;have lenV:=hi.length;have tqa:∀b q,tq K b=some q->b≠a:=λb q e z=>by
  have h:=(hT b q e).2.1;rw[z,ha]at h;cases h
 have core:∀G:Option HO,(G=none\/∃o xs,G=some (.frz o (.lst xs)))->(∀H:Hp,H a=G->cW K H a (ns.map V.int))->(∀H o,G=some o->bp P w H s₁.heap a o)->(G≠none->K.lookup a=none)->
   codeAny (model P w) callerA (.call (.ref fa) ⟨[.ref a],[]⟩) (λr s'=>r=.ok (.ret (.bool true))/\OldK s₁.heap s'.heap/\s'.os=s₁.os/\AllBare s'.gens) s₁:=by
  intro G hG hS hok0 hK;generalize hH:(λb=>if b=a then G else(tq K b).map HO.tab:Hp)=H;have Ha:H a=G:=by rw[<- hH];exact i_ rfl
  have Hb:∀b,b≠a->H b=(tq K b).map HO.tab:=λb h=>by rw[<- hH];exact j_ h
  have Ht:∀b q,tq K b=some q->H b=some (.tab q):=λb q e=>by rw[Hb b (tqa b q e),e];rfl
  have Hs:∀b o,H b=some o->(b=a/\G=some o)\/∃q,tq K b=some q/\o=.tab q:=λb o e=>by
   by_cases h:b=a
   .exact .inl ⟨h,by rw[<- Ha,<- h];exact e⟩
   .rw[Hb b h]at e;obtain⟨q,e1,e2⟩:=K_.mp e;exact .inr ⟨q,e1,e2.symm⟩
  have hO:Jk H:=λb=>by
   cases e:H b with
   | none=>exact .inl rfl
   | some o=>
    rcases Hs b o e with ⟨_,z⟩ | ⟨q,_,z⟩
    .rcases hG with g | ⟨ob,xs,g⟩
     .rw[g]at z;cases z
     .rw[g]at z;cases z;exact .inr (.inl ⟨_,_,rfl⟩)
    .exact .inr (.inr ⟨q,by rw[z]⟩)
  have hok:lN P w H s₁.heap:=λb o e=>by
   rcases Hs b o e with ⟨z,g⟩ | ⟨q,z,g⟩
   .subst z;exact hok0 H o g
   .subst g;exact⟨#[],(hT b q z).2.1,trivial,λpos v z=>by cases z⟩
  have rQ:∀{b:V8}{o:Obj},s₁.heap.get? b=some o->H b=none->(qt s₁.heap H).get? b=some o:=λe n=>Be e n;have Dq:∀{b:V8}{o:Obj},s₁.heap.get? b=some o->(∀xs n,o.data≠.seq xs n)->(∀xs,o.data≠.fields xs)->H b=none:=λ{b o} e d1 d2=>by
   cases q:H b with
   | none=>rfl
   | some u=>
    rcases Hs b u q with ⟨z,_⟩ | ⟨q,z,_⟩
    .subst z;rw[ha]at e;cases e;exact absurd rfl (d1 _ _)
    .have h:=(hT b q z).2.1;rw[h]at e;cases e;exact absurd rfl (d2 _)
  have N1:∀{b:V8}{m:VL},s₁.heap.Ns b m->(qt s₁.heap H).Ns b m:=λ{b m} ⟨o,es,ep,e,d,r⟩=>⟨o,es,ep,rQ e (Dq e (λ_ _ z=>by rw[d]at z;cases z) λ_ z=>by rw[d]at z;cases z),d,r⟩;have Rf:K.In (qt s₁.heap H):=λb o e=>rQ (KX b o e) (by
   cases q:H b with
   | none=>rfl
   | some u=>
    rcases Hs b u q with ⟨z,g⟩ | ⟨q,z,_⟩
    .subst z;rw[hK (by rw[g];simp)]at e;cases e
    .rw[(hT b q z).2.2]at e;cases e)
  have hM:Mod K mg (qt s₁.heap H):=by
   obtain⟨bm,o,b1,b2,b4,b5,b6,b7⟩:=hbm;refine⟨Rf,N1 wg,⟨mb,N1 hb,MP⟩,let ⟨mc,h1,h2⟩:=hlim;⟨mc,N1 h1,h2⟩,bm,o,b1,b2,λz=>?_,rQ b4 (Dq b4 (λ_ _ z=>by rw[b7]at z;cases z) λ_ z=>by rw[b7]at z;cases z),b5,b6,b7⟩;obtain⟨o',es,ep,e,hd,_⟩:=wg;rw[z,e]at b4;cases b4;rw[hd]at b7;cases b7
  have e0:zI P w K mg (qt s₁.heap H) callerA [] s₁ H:=⟨rfl,hM,λb o e=>DQ e,Nat.le_of_eq (yY _ _),trivial,λb hb=>absurd (show b∈([]:VT)from hb) (by simp),hok,.of_eq hg,Ht⟩;refine Uj ((F _ Rf (N1 wg)).run callerA [] s₁ H ⟨[.ref a],[]⟩ [.ref a] [.ref a] _ _ hr e0 (hbind s₁ (.ref a)) (.cons rfl .nil) (hsp H hO (hS H Ha))) λr s' h=>?_;cases r with
  | error e=>exact(hCX H e s' h).elim
  | ok fl=>
   cases fl with
   | next=>exact False.elim h
   | brk=>exact False.elim h
   | cont=>exact False.elim h
   | ret u=>
    obtain⟨v,H',os,bare,un,MQ,r',q⟩:=h;have q':v=.bl true:=q;subst q';obtain rfl:u=Value.bool true:=r';have old:∀b o,s₁.heap.get? b=some o->s'.heap.get? b=some o\/∃q ps,tq K b=some q/\s'.heap.get? b=some (PySem.W.tabObj ps):=λb o e=>by
     cases q:H b with
     | none=>exact .inl (un.keep b o e q (by intro z;exact absurd (show b∈([]:VT)from z) (by simp)) (by simp))
     | some u=>
      rcases Hs b u q with ⟨_,z⟩ | ⟨qq,z,g⟩
      .rcases hG with g | ⟨ob,xs,g⟩
       .rw[g]at z;cases z
       .rw[g]at z;cases z;have z2:=un.frzs b ob _ q;obtain⟨e1,_⟩:=hok b _ q;obtain⟨e2,_⟩:=MQ b _ z2;rw[e]at e1;cases e1;exact .inl e2
      .subst g;obtain⟨ps,e2,_⟩:=MQ b _ (un.tbls b qq q);exact .inr ⟨qq,ps,z,e2⟩
    refine⟨rfl,⟨λb o e=>?_,λb o e=>?_⟩,os,bare⟩
    .rcases old b o e with z | ⟨q,ps,z,e2⟩
     .exact .inl z
     .obtain⟨⟨c,hc⟩,h2,_⟩:=hT b q z;rw[h2]at e;cases e;exact .inr (.inl ⟨(hc.tab h2).isCodeTable,rfl,#[],ps,rfl,by rw[Array.empty_append];exact e2⟩)
    .rcases old b o e with z | ⟨q,ps,z,e2⟩
     .exact⟨o,z⟩
     .exact⟨_,e2⟩
 cases hk:K.lookup a with
 | some o=>
  have e:=KX a o hk;rw[ha]at e;cases e;exact core none (.inl rfl) (λH _=>.inr ⟨_,vs.toArray,_,hk,rfl,rfl,rfl,by rw[t_,lenV];exact hl,by simpa using rv⟩) (λH o z=>by cases z) λz=>absurd rfl z
 | none=>
  refine core (some (.frz {cls:=.type "list",data:=.seq vs.toArray} (.lst (ns.map V.int)))) (.inr ⟨_,_,rfl⟩) (λH e=>.inl (.inr ⟨_,e⟩)) (λH o z=>?_) λ_=>hk;cases z;exact⟨ha,by rw[c_];exact hl,vs,_,rv,ha⟩
def bO(s:V_):Arguments:=match s with
 | .FunctionDef _ a _ _ _ _ _ _ _ _=>a
 | _=>{posonlyargs:=[],args:=[],vararg:=none,kwonlyargs:=[],kw_defaults:=[],kwarg:=none,defaults:=[]}
def aP(s:V_):VV:=match s with
 | .FunctionDef _ _ b _ _ _ _ _ _ _=>b
 | _=>[]
def aq(s:V_):V7:=match s with
 | .FunctionDef _ _ _ _ _ _ sc _ _ _=>sc
 | _=>{kind:=.function,names:=[],isGenerator:=false,isCoroutine:=false}
abbrev jk:CXT:=λ_ _ _ _ _ _=>False
abbrev E0:XK:=λ_ _ _=>False
theorem wF{X:Cx}:jT jk X E0:=λ_ _ _ _ _ _ _ h=>h.elim
structure xR(K:PySem.W.Frag)(x qual:Str)(st:Stmt)(f:Addr)(fd:FuncData):Prop where
 ex:∃(oc:Value)(od:Option Addr)(kV doc pm:Value)(an:Option Addr)(bP ct:Value)(zS:Array (Option Value)),
  fd=PySem.W.fnOf x qual (bO st) (aP st) (aq st) .none kV doc pm an bP ct/\K.lookup f=some ⟨oc,od,.func fd,zS⟩/\PySem.W.codeIn K bP qual=true
 kp:PySem.W.keepIn K (.ref f)=true
section
variable {P:V2}{w:V5}{K:VZ}{mg:VL}{base:V4}
theorem xR.ok{x qual:Str}{st:V_}{f:V8}{fd:V6}{N ps:VS}{k:Nat}{sp:Sp}(F:xR K x qual st f fd)(S:bY N ps (aq st))(len:∀vs H Q E,sp vs H Q E->vs.length=ps.length)
  (hbody:∀(bP:V0)(A:V3)(outer:List Env)(s:V1)(H:Hp)(vs:Wh)(Q:VK)(E:XK),bo k (A.deeper (envOfC qual (aq st) s.heap.objs.size f bP))->sp vs H Q E->
   ∃t,iG (gE jk P w K mg base N qual (aq st) f bP A outer s H E).nox (aP st) t/\t {nx:=λ_ H'=>Q .non H',rt:=Q} (start N vs) H):dM P w K mg base jk (k+1) f fd ps sp:=by
 obtain⟨oc,od,kV,doc,pm,an,bP,ct,zS,rfl,lk,eM⟩:=F.ex;refine Ag lk eM S len λA outer s H vs Q E hr hsp=>?_;obtain⟨t,h,q⟩:=hbody bP A outer s H vs Q E hr hsp;exact⟨t,h.nox,q⟩
theorem xR.binds{x qual:Str}{st:V_}{f:V8}{fd:V6}{ps:VS}(F:xR K x qual st f fd)
  (h:∀(kV doc pm:V0)(an:VR)(bP ct:V0)(us:VP),us.length=ps.length->bindArgs (PySem.W.fnOf x qual (bO st) (aP st) (aq st) .none kV doc pm an bP ct) ⟨us,[]⟩=pure (ps.zip us)):Binds K fd ps []:=by
 obtain⟨oc,od,kV,doc,pm,an,bP,ct,zS,rfl,lk,eM⟩:=F.ex;exact .all (h kV doc pm an bP ct)
theorem l'{x qual:Str}{st:V_}{f:V8}{oc:V0}{od an:VR}{zS:VJ}{kV doc pm bP ct:V0}(l:K.lookup f=some ⟨oc,od,.func (PySem.W.fnOf x qual (bO st) (aP st) (aq st) .none kV doc pm an bP ct),zS⟩)
  (c:PySem.W.codeIn K bP qual=true) (k:PySem.W.keepIn K (.ref f)=true):xR K x qual st f (PySem.W.fnOf x qual (bO st) (aP st) (aq st) .none kV doc pm an bP ct):=⟨⟨oc,od,kV,doc,pm,an,bP,ct,zS,rfl,l,c⟩,k⟩
end
theorem oW{A:V3}{k:Nat}(hr:bo k A):A.units+1<cLine:=Ve (Nat.add_le_add_left (by decide:1<=64) _) hr.units
theorem oA{n:Nat}(h:n<=1000):n<sizeLine:=Ve h (by decide)
section
variable {X:Cx}
end
theorem yo{A B:Prop}(h:B):if false=true then A else B:=by
 rw[j_ Sf];exact h
theorem zE{A B:Prop}(h:A):if true=true then A else B:=by
 rw[i_ rfl];exact h
def aD(H H':Hp):Prop:=∀b o,H b=some o->H' b=some o
theorem aD.refl(H:Hp):aD H H:=λ_ _ h=>h
theorem aD.trans{H H1 H2:Hp}(a:aD H H1)(b:aD H1 H2):aD H H2:=λc o h=>b c o (a c o h)
theorem aD.free{H H':Hp}(e:aD H H'){l:V8}(h:H' l=Option.none):H l=Option.none:=by
 cases q:H l with
 | none=>rfl
 | some o=>
  rw[e l o q]at h;cases h
theorem aD.seq{K:VZ}{H H':Hp}{a:V8}{xs:Wh}(e:aD H H')(h:cW K H a xs):cW K H' a xs:=by
 rcases h with (h | ⟨o,h⟩) | h
 .exact .inl (.inl (e _ _ h))
 .exact .inl (.inr ⟨o,e _ _ h⟩)
 .exact .inr h
section
variable {κ:Type}[DecidableEq κ]
end
theorem BI{P:V2}{w:V5}{k:Key}{u:V0}(r:RelV (kV k) u):(aF P w).is k u=true:=by
 cases k with
 | inl i=>obtain⟨t,e⟩:=(show ∃t,u=Value.int i t from r);subst e;exact tO P w i t
 | inr x=>obtain⟨t,e⟩:=(show ∃t,u=Value.str x t from r);subst e;exact tP P w x t
theorem ki{P:V2}{w:V5}:∀{ks:Wb}{us:VP},aw (ks.map kV) us->ItemsAre (aF P w) ks us
 | [],_,r=>by rw[TV]at r;cases r;exact .nil
 | k::ks,_,r=>by
  rw[B_]at r;cases r with
  | cons h t=>exact .cons (BI h) (ki t)
section
variable {P:V2}{w:V5}{H:Hp}{h:V4}{a:V8}
end
section
variable {X:Cx}{pins:VI}{σ:St}{H:Hp}{s:V1}{a:V8}{y v:V}{u r:V0}{o:Option V}{A:V3}{E:VH}
theorem Inv.big(I:Inv X pins σ H s):sysModules<s.heap.objs.size:=by
 have h:mainGlobals<s.heap.objs.size:=(I.mod.glob.keeps I.bk).lt;exact VC (by decide) h
end
section
variable {X:Cx}{pins:VI}{σ:St}{H:Hp}{s:V1}{a:V8}{kvs:List (Key×V)}{k:Key}{u:V0}{A:V3}{E:VH}
end
def x8(i:V9):Prop:=∀ov iv,subscripted i false ov iv=operate [ov,iv] (getItem ov iv)
theorem xi{prog:V2}{w:V5}{A:V3}{E:VH}{s:V1}{env:Env}{value slice:V9}{pos:Pos}{T id:String}{Q:VH}
  (hl:typeLookup (.type T) "__getitem__"=pure (some (.builtin id))) (hs:x8 slice)
  (h:wpAny (model prog w) A (eval value env) (λo s₁=>wpAny (model prog w) A (eval slice env) (λi s₂=>s₂.TypeIs o T/\wpAny (model prog w) A (getItem o i) Q E s₂) E s₁) E s) :
  wpAny (model prog w) A (eval (.Subscript value slice pos) env) Q E s:=by
 refine Subscript_ (Sx h (λo s₁ h₁=>Sx h₁ (λi s₂ h₂=>?_) λ_ _ x=>x) λ_ _ x=>x);obtain⟨hT,h₂⟩:=h₂;unfold subscriptTail;refine b_ ?_;rw[getitemInPython_of_ne hT.not_modules];refine b_ (T6 hT hl ?_);have fin:wpAny (model prog w) A (subscripted slice false o i) (λr s₃=>wpAny (model prog w) A (letTemporaryGo value o r >>= λ_=>pure r) Q E s₃) E s₂:=by
  rw[hs o i];exact wpAny_operating (Sx h₂ (λr s₃ h₃=>b_ (wpAny_letTemporaryGo (g_ h₃))) λ_ _ x=>x)
 first
  | exact g_ (b_ fin)
  | exact b_ (g_ (b_ fin))
  | exact b_ fin
section
variable {X:Cx}{o i e value:V9}{pos pos' tpos:Pos}{td ty tv:TE}
end
section
variable {X:Cx}{pos:Pos}
end
structure M1(X:Cx)(o:Expr)(m:Str)(apos:Pos)(e:Expr)(bA:Pos):Prop where
 base:attributeBase o m X.env (eval o X.env)=eval o X.env
 few:((backTo bA (starEach [e] X.env)).all (λx=>!x.1)&&(backToKw bA (keywordEach [] X.env)).all (λx=>x.1.isSome)
  && decide (([e]:List Expr).length+([]:List Keyword).length+(if([]:List Keyword).isEmpty then 0 else 1)<30))=true
 line:(apos.endLine==bA.line)=true
 trees:backTo bA (starEach [e] X.env)=[(false,eval e X.env)]
structure M2(X:Cx)(o:Expr)(m:Str)(apos:Pos)(e f:Expr)(bA:Pos):Prop where
 base:attributeBase o m X.env (eval o X.env)=eval o X.env
 few:((backTo bA (starEach [e,f] X.env)).all (λx=>!x.1)&&(backToKw bA (keywordEach [] X.env)).all (λx=>x.1.isSome)
  && decide (([e,f]:List Expr).length+([]:List Keyword).length+(if([]:List Keyword).isEmpty then 0 else 1)<30))=true
 line:(apos.endLine==bA.line)=true
 trees:backTo bA (starEach [e,f] X.env)=[(false,eval e X.env),(false,eval f X.env)]
def RJ(H:Hp)(a:V8):Prop:=(∃kvs,Rd H a (.dK kvs))\/∃kvs,Rd H a (.dT kvs)
section
variable {X:Cx}{pins:VI}{σ:St}{H:Hp}{s:V1}{a:V8}{y d:V}{u r:V0}{o:Option V}{A:V3}{E:VH}
end
section
variable {X:Cx}{o e f:V9}{apos bA:Pos}{td ty tx:TE}
end
section
variable {X:Cx}{pins:VI}{σ:St}{H:Hp}{s:V1}{a:V8}{kvs:List (Key×V)}{A:V3}{E:VH}
end
section
variable {X:Cx}{pins:VI}{σ:St}{H:Hp}{s:V1}{a:V8}{y:V}{u:V0}{A:V3}{E:VH}
end
end L2
namespace St
open PySem L2
theorem DA(n:Nat)(h:carriedByValue v=true):ofAClassStatement n v=pure false:=by
 cases v with
 | ref a=>simp[carriedByValue]at h
 | _=>first | rfl | (unfold ofAClassStatement;rfl) | (cases n<;>rfl)
theorem Fc(n:Nat)(h:mD k v=true):∃b,hashByValue n v=pure b:=by
 rcases bC h with ⟨i,t,rfl,rfl⟩ | ⟨x,t,rfl,rfl⟩
 .exact⟨true,by cases n<;>simp[hashByValue]⟩
 .exact⟨false,by cases n<;>simp[hashByValue]⟩
theorem mh:SK (tupleKind (aF prog w)) where
 cls:=λ{A E s k a Q} hk h=>by
  have hT:s.TypeIs (.ref a) "tuple":=IsTupleKey.typeIs hk;obtain⟨o,items,n,ho,_,hd,hi⟩:=hk;unfold ofAClassStatement;refine b_ (wpAny_typeOf hT ?_);dsimp only;simp only[beq_self_eq_true,TK];refine b_ (g_ ?_);simp only[Vs,J_,SA];refine b_ (TM ho hd ?_);dsimp only;refine b_ ?_;rw[<- Array.forIn_toList];refine UP _ (λrest r s'=>r.1=none/\s'=s/\∀v∈rest,carriedByValue v=true) _ ?_ ?_ _ _ ⟨rfl,rfl,hi.byValue⟩
  .rintro v rest r s' ⟨hr,rfl,iM⟩;rw[DA _ (iM v f_)];refine b_ (g_ ?_);simp only[J_,SA];exact g_ ⟨rfl,rfl,λu Kq=>iM u (d_ _ Kq)⟩
  .rintro⟨r1,r2⟩ s' ⟨hr,rfl,_⟩;simp only at hr;subst hr;exact g_ h
 hbv:=λ{A E s k a Q} hk h=>by
  have hT:s.TypeIs (.ref a) "tuple":=IsTupleKey.typeIs hk;obtain⟨o,items,n,ho,_,hd,hi⟩:=hk;unfold hashByValue;refine b_ (T6 hT F.slot_tuple_hash.lookup ?_);dsimp only;refine b_ (TM ho hd ?_);refine b_ ?_;show wpAny _ _ (forIn items _ _) _ _ s;rw[<- Array.forIn_toList];refine UP _ (λrest r s'=>r.1=none/\s'=s/\∃ks,ItemsAre (aF prog w) ks rest) _ ?_ ?_ _ _ ⟨rfl,rfl,_,hi⟩
  .rintro v rest r s' ⟨hr,rfl,ks,GP⟩;cases GP with
   | cons h1 NW=>
    obtain⟨b,hb⟩:=Fc 7 h1;rw[hb];refine b_ (g_ ?_);cases b with
    | true=>
     simp only[Vs,J_,SA];exact g_ ⟨rfl,rfl,_,NW⟩
    | false=>
     simp only[Bool.not_false,TK];exact g_ (g_ (h _))
  .rintro⟨r1,r2⟩ s' ⟨hr,rfl,_⟩;simp only at hr;subst hr;exact g_ (h _)
theorem tF(x:(tupleKind (aF prog w)).is h ks a)(k:∀o,h.get? a=some o->h'.get? a=some o):(tupleKind (aF prog w)).is h' ks a:=by
 obtain⟨o,items,n,ho,hc,hd,hi⟩:=x;exact⟨o,items,n,k o ho,hc,hd,hi⟩
theorem cN.keep{prog:V2}{w:V5}{K:Type}[DecidableEq K]{knd:HeapKind prog w K}{h h':V4}{a:V8}{xs:List (K×V8)}(x:cN knd a xs h)(k:∀o,h.get? a=some o->h'.get? a=some o):cN knd a xs h':=by
 obtain⟨o,es,ep,t,ho,rest⟩:=x;exact⟨o,es,ep,t,k o ho,rest⟩
def iJ[DecidableEq K](xs:List (K×V8))(x:K×V8):List (K×V8):=if x.1∈xs.map (·.1)then xs else xs++[x]
section
variable {prog:V2}{w:V5}{A:V3}{E:VH}{s:V1}{R:Result->V1->Prop}
theorem Cm(xs:List (Wb×V8))(x:Wb×V8):(iJ xs x).length<=xs.length+1:=by unfold iJ;split<;>simp
theorem B8{xs:List (Wb×V8)}{x y:Wb×V8}(h:y∈iJ xs x):y∈xs\/y=x:=by
 unfold iJ at h
 split at h
 .exact .inl h
 .simpa using h
theorem xZ(hu:A.units<cLine)(hS:cN (tupleKind (aF prog w)) a xs s.heap)(uE:∀x∈xs,(tupleKind (aF prog w)).is s.heap x.1 x.2)(dJ:(tupleKind (aF prog w)).is s.heap k b)(hl:xs.length+1<=4914)
  (h:∀r h' tk,Heap.SameBut a s.heap h'->cN (tupleKind (aF prog w)) a (iJ xs (k,b)) h'->(∀L,Nu prog w b s.heap->Fl a L s.heap->Fl a L h')->Q r {s with heap:=h',toks:=tk}):wpAny (model prog w) A (setAdd a (.ref b)) Q E s:=by
 unfold setAdd;refine L_ ?_;refine b_ ((tupleKind (aF prog w)).pyHash (show(tupleKind (aF prog w)).room A from hu) dJ ?_);refine D9 (s:={s with toks:=s.toks+(tupleKind (aF prog w)).draws k}) mh (show(tupleKind (aF prog w)).room A from hu) hS uE dJ hl (λhk=>?_) (λhk h' hsb MR hF=>?_)
 .have e:iJ xs (k,b)=xs:=by unfold iJ;rw[i_ hk]
  exact h false s.heap _ ⟨rfl,λ_ _=>rfl⟩ (by rw[e];exact hS) λ_ _ z=>z
 .have e:iJ xs (k,b)=xs++[(k,b)]:=by unfold iJ;rw[j_ hk]
  exact h true h' _ hsb (by rw[e];exact MR) hF
theorem tu(hh:A.in1.handled=none)(hu:A.in1.units<cLine){h0:V4}{N d it l:Nat}(N2:d≠it)(Rg:N<=d)(Pn:N<=it){items:Array V0}(hl:h0.IsList l items)(Po:l<N){ks:List (Wb×V8)}(hit:items.toList=ks.map λx=>Value.ref x.2)
  (GP:∀x∈ks,x.2<N/\(tupleKind (aF prog w)).is h0 x.1 x.2) (hlen:ks.length<=4900) :
  ∀(rest pre:List (Wb×V8))(s:V1)(xs:List (Wb×V8)),ks=pre++rest->(∀b o,b<N->h0.get? b=some o->s.heap.get? b=some o)->s.heap.IsListIter it l pre.length->cN (tupleKind (aF prog w)) d xs s.heap->(∀x∈xs,x∈ks)->xs.length<=pre.length->
   (∀h' tk,(∀b o,b<N->h0.get? b=some o->h'.get? b=some o)->cN (tupleKind (aF prog w)) d (rest.foldl iJ xs) h'->R (.ok (.ret .none)) {s with heap:=h',toks:=tk})->
   codeAny (model prog w) A (.builtin "set.update.loop" ⟨[.ref d,.ref it],[]⟩) R s
 | [],pre,s,xs,hk,hold,hi,hS,hx,hxl,hR=>by
  refine S8 Up ?_;rw[Tz Ta _];have CW:s.heap.IsList l items:=by obtain⟨o,ho,r⟩:=hl;exact⟨o,hold l o Po ho,r⟩
  show wpAny _ A.in1 (pyNext (.ref it) >>= _) _ _ s;refine b_ (UN hh hi CW (by
   rw[<- Array.getElem?_toList,hit,hk];simp) λh' hb=>?_)
  show wpAny _ A.in1 (ret Value.none) _ _ _;refine g_ (hR h' s.toks (λb o hbN e=>hb b o (w_ (N_ hbN Pn)) (hold b o hbN e)) (hS.keep λo e=>hb d o N2 e))
 | x::rest,pre,s,xs,hk,hold,hi,hS,hx,hxl,hR=>by
  refine S8 Up ?_;rw[Tz Ta _];have CW:s.heap.IsList l items:=by obtain⟨o,ho,r⟩:=hl;exact⟨o,hold l o Po ho,r⟩
  have Rh:x∈ks:=by rw[hk];simp
  obtain⟨xN,xk⟩:=GP x Rh;have Ri:pre.length+1<=ks.length:=by rw[hk];simp
  show wpAny _ A.in1 (pyNext (.ref it) >>= _) _ _ s;refine b_ (UI hi CW (x:=.ref x.2) (by
   rw[<- Array.getElem?_toList,hit,hk];simp) λh1 Pe hsb1=>?_)
  have CY:∀b o,b<N->h0.get? b=some o->h1.get? b=some o:=λb o hbN e=>by
   rw[hsb1.2 b (w_ (N_ hbN Pn))];exact hold b o hbN e
  have hS1:cN (tupleKind (aF prog w)) d xs h1:=hS.keep λo e=>by rw[hsb1.2 d N2];exact e
  show wpAny _ A.in1 (holding [Value.ref x.2] (setAdd d (.ref x.2)) >>= _) _ _ {s with heap:=h1};refine b_ (L_ (xZ (s:={s with heap:=h1}) hu hS1 (λy hy=>?_) (k:=x.1) (tF xk λo e=>CY _ o xN e) (by lia) λr h2 tk hsb2 Pp _=>?_))
  .obtain⟨yN,yk⟩:=GP y (hx y hy);exact tF yk λo e=>CY _ o yN e
  .refine g_ ⟨UW Ta _,?_⟩;have hold2:∀b o,b<N->h0.get? b=some o->h2.get? b=some o:=λb o hbN e=>by
    rw[hsb2.2 b (w_ (N_ hbN Rg))];exact CY b o hbN e
   have hi2:h2.IsListIter it l (pre++[x]).length:=by
    rw[h_,Si];obtain⟨o,ho,r⟩:=Pe;exact⟨o,by rw[hsb2.2 it (SR N2)];exact ho,r⟩
   have:=Cm xs x;exact tu hh hu N2 Rg Pn hl Po hit GP hlen rest (pre++[x]) {s with heap:=h2,toks:=tk} (iJ xs x) (by rw[hk];simp) hold2 hi2 Pp (λy hy=>by
    rcases B8 hy with h | h
    .exact hx y h
    .exact h▸Rh) (by rw[h_,Si];lia) hR
theorem CK(led:Bool)(e:h.get? a=some {cls:=.type "set",dict:=none,data:=.set #[] 0 (.fresh 0 0 led)}):cN (tupleKind (aF prog w)) a [] h:=by
 refine⟨_,#[],0,_,e,⟨rfl,rfl,rfl⟩,rfl,⟨by simp,⟨rfl,⟨3,rfl⟩,by simp[SetTable.fresh],λx hx=>?_,rfl,by simp[SetTable.fresh],λq hq=>?_⟩,by simp[SetTable.fresh,eF],by simp[SetTable.fresh]⟩,S5⟩
 .simp[SetTable.fresh]at hx
 .simp[SetTable.fresh]at hq
theorem oq{l:V8}{items:Array V0}{ks:List (Wb×V8)}{Q:VH}(hh:A.handled=none)(hu:A.units+4<cLine)(hl:s.heap.IsList l items)(hit:items.toList=ks.map λx=>Value.ref x.2)
  (GP:∀x∈ks,(tupleKind (aF prog w)).is s.heap x.1 x.2) (hlen:ks.length<=4900)
  (h:∀(h':V4)(tk:Nat),cN (tupleKind (aF prog w)) s.sz (ks.foldl iJ []) h'->(∀b o,b<s.sz->s.heap.get? b=some o->h'.get? b=some o)->Q (.ref s.sz) {s with heap:=h',toks:=tk}) :
  wpAny (model prog w) A (call (.type "set") [.ref l]) Q E s:=by
 obtain⟨c,tl,hmro⟩:=T2.mro;have hmade:=T2.made;have hsub:=T2.sub;refine wpAny_call (codeAny_of_tree ?_);show wpAny _ _ (callAny (.type "set") _) _ _ _;refine g_ ⟨Code.quiet_builtin _ (by decide +kernel),S8 F.entry_type_call ?_⟩;rw[Around.under_plain (weight_type_call_type "set" [.ref l] []) rfl];have h1:=T2.notType;have h2:=T2.canCreate;have hct:=F.typeCall_set_1 (.ref l)
 repeat (any_goals (first | assumption | wp_step))
 refine Uj (code_set_new_1 (.ref l) (E:=E) (Q₁:=λobj s₁=>∃led:Bool,obj=.ref s.sz/\s₁={s with heap:=s.heap.push {cls:=.type "set",dict:=none,data:=.set #[] 0 (.fresh 0 0 led)}}) λled=>⟨led,rfl,rfl⟩) λr s₁ hr=>?_;cases r with
 | error e=>exact hr
 | ok fl=>
  cases fl with
  | ret obj=>
   obtain⟨led,rfl,rfl⟩:=hr;have hS:(s.heap.push {cls:=.type "set",dict:=none,data:=.set #[] 0 (.fresh 0 0 led)}).get? s.sz=some {cls:=.type "set",dict:=none,data:=.set #[] 0 (.fresh 0 0 led)}:=p_ _ rfl;have hT:Shared.TypeIs {s with heap:=s.heap.push {cls:=.type "set",dict:=none,data:=.set #[] 0 (.fresh 0 0 led)}} (.ref s.sz) "set":=⟨_,hS,rfl⟩;have hli:=T2.init.lookup;have hbi:=T2.init.bind (.ref s.sz)
   repeat (any_goals (first | assumption | wp_step))
   refine Uj (codeAny_call_builtin (R:=wants (λr s₂=>r=.none/\∃h' tk,s₂={s with heap:=h',toks:=tk}/\
     cN (tupleKind (aF prog w)) s.sz (ks.foldl iJ []) h'/\
     (∀b o,b<s.sz->s.heap.get? b=some o->h'.get? b=some o)) E) T2.init.plain F.entry_set_init (check_set_init_1 hT ?_)) λr₂ s₂ hr₂=>?_
   .obtain⟨ol,Dt,fo,nl,FM⟩:=id hl;obtain⟨ocls,odict,odata,oslots⟩:=ol;simp only at fo FM;subst fo;subst FM;have hol':(s.heap.push {cls:=.type "set",dict:=none,data:=.set #[] 0 (.fresh 0 0 led)}).get? l=some {cls:=.type "list",dict:=odict,data:=.seq items nl,slots:=oslots}:=e_ _ Dt;have hsls:=F.sub_list_set;have hslf:=F.sub_list_frozenset;have hne:(Value.type "list"==Value.type "dict")=false:=by decide
    have hl1:(s.heap.push {cls:=.type "set",dict:=none,data:=.set #[] 0 (.fresh 0 0 led)}).IsList l items:=⟨_,hol',rfl,nl,rfl⟩;unfold Builtin.«set.__init__» noKeywords Builtin.Frozenset.updateFrom;generalize hPI:pyIter=PI
    wp_walk
    subst hPI;refine Tv hl1 ?_;refine b_ (wpAny_runValue ?_);have N3:l<s.sz:=r_ Dt;have hsz:(s.heap.push {cls:=.type "set",dict:=none,data:=.set #[] 0 (.fresh 0 0 led)}).objs.size=s.sz+1:=Ti _ _;refine tu (h0:=s.heap) (N:=s.sz) (ks:=ks) (items:=items) (by simp[hh]) ?hu1 (by rw[hsz];exact w_ (Ui _)) (l_ _) (by rw[hsz];exact UC _) hl N3 hit (λx hx=>⟨?_,GP x hx⟩) hlen ks [] _ [] rfl (λb o _ e=>e_ _ (e_ _ e)) ⟨_,p_ _ rfl,rfl,rfl⟩ (CK led (e_ _ hS)) (λx hx=>by cases hx) (l_ _) λh' tk hold MR=>?_
    case hu1=>simp only[Around.in1];first | lia | (simp[Around.in1];lia)
    .obtain⟨o,_,_,ho,_⟩:=GP x hx;exact r_ ho
    .show wpAny _ _ _ _ _ _;refine g_ ?_;show wpAny _ _ (ret Value.none) _ _ _;exact g_ ⟨rfl,h',tk,rfl,MR,hold⟩
   .cases r₂ with
    | error e=>exact hr₂
    | ok fl₂=>
     cases fl₂ with
     | ret r=>
      obtain⟨rfl,h',tk,rfl,MR,hk'⟩:=hr₂
      repeat (any_goals (first | assumption | wp_step))
      exact h _ _ MR hk'
     | _=>exact hr₂.elim
  | _=>exact hr.elim
end
section
variable {prog:V2}{w:V5}{A:V3}{E:VH}{s:V1}{R:Result->V1->Prop}
section
variable {K:Type}[DecidableEq K]{knd:HeapKind prog w K}
end
end
end St
namespace Mi
open PySem PySem.Spec PyProof.Rows L2
inductive D where
 | non | bl (b:Bool) | int (i:Int) | str (x:Str) | tup (ds:List D) | lst (ds:List D) | dct (ks:List (Int×Int))
  | st (ps:List (Int×Int)) | ln (n:Nat)
  | mp (th:Str->Int) (ks:List (List Key)) (ds:List D)
  | ix (th:Str->Int) (ks:List Key) (ds:List D)
  | nt (ks:List (List Key)) (ds:List D)
  | ob (ns:List Str) (ds:List D)
 deriving Inhabited
abbrev Wg:=Option D
abbrev Wf:=List D
abbrev We:=Option Wf
def kk(p:VY):Wb:=[.inl p.1,.inl p.2]
abbrev Fg:=VZ
def Lp(x:VY×V8):Int×V0:=(reduceHash (Builtin.Tuple.tupleHashOf [hashInt x.1.1,hashInt x.1.2]),.ref x.2)
def gg(a:V8)(ps:VN)(bs:VT)(h:V4):Prop:=
 ∃o es ep t,h.get? a=some o/\o.ExactSet/\o.data=.set es ep t/\es.toList.Perm ((ps.zip bs).map Lp)/\St.Ok t (es.toList.map (·.1))/\t.mask∈St.eF/\t.place.size*5<t.mask*3/\ps.Nodup
def Om(x:VY×V8):DictEntry:=⟨reduceHash (Builtin.Tuple.tupleHashOf [hashInt x.1.1,hashInt x.1.2]),.ref x.2,.bool true⟩
def Iu(a:V8)(ps:VN)(bs:VT)(h:V4):Prop:=
 ∃o es ep,h.get? a=some o/\o.ExactDict/\o.data=.dict es ep/\es.toList=(ps.zip bs).map Om/\ps.Nodup/\(a==sysModules)=false/\ps.length<=16000000
def ik(K:Fg)(H:Hp)(ps:VN)(bs:VT):Prop:=bs.length=ps.length/\∀(i:Nat) p b,ps[i]?=some p->bs[i]?=some b->c7 K H b [.int p.1,.int p.2]
def y8(K:Fg)(Z H:Hp)(a:V8)(ks:VN):Prop:=∃bs,H a=some (.ext (Iu a ks bs))/\ik K Z ks bs
def K6(a:V8)(n:Nat)(h:V4):Prop:=∃o es ep,h.get? a=some o/\o.ExactDict/\o.data=.dict es ep/\es.size=n/\(a==sysModules)=false
def hK(th:Str->Int):Key->Int
 | .inl k=>hashInt k
 | .inr x=>th x
def DE(th:Str->Int)(x:Wb×V8×V0):DictEntry:=⟨reduceHash (Builtin.Tuple.tupleHashOf (x.1.map (hK th))),.ref x.2.1,x.2.2⟩
def gG(ks:Wa)(bs:VT)(us:VP):List (Wb×V8×V0):=ks.zip (bs.zip us)
def ck(th:Str->Int)(a:V8)(ks:Wa)(bs:VT)(vs:Wh)(h:V4):Prop:=
 ∃o es ep us,h.get? a=some o/\o.ExactDict/\o.data=.dict es ep/\aw vs us/\es.toList=(gG ks bs us).map (DE th)/\ks.Nodup/\(a==sysModules)=false/\ks.length<=16000000/\bs.length=ks.length/\us.length=ks.length
def fH(K:Fg)(H:Hp)(ks:Wa)(bs:VT):Prop:=∀(i:Nat) k b,ks[i]?=some k->bs[i]?=some b->c7 K H b (k.map kV)
def Es(th:Str->Int)(o:Obj)(a:V8)(ks:Wb)(vs:Wh):Prop:=
 (a==sysModules)=false/\ks.length<=16000000/\vs.length=ks.length/\∃(P:V2)(w:V5)(us:VP),th=hashStr w/\aw vs us/\o.IsDictOf (aF P w) (ks.zip us)
def iN(a:V8)(o:Obj)(h:V4):Prop:=h.get? a=some o
def Q0:Wb->VN
 | .inl a::.inl b::r=>(a,b)::Q0 r
 | _=>[]
def QY:VN->Wb
 | []=>[]
 | p::ps=>.inl p.1::.inl p.2::QY ps
def RN(p:VY):Int:=reduceHash (Builtin.Tuple.tupleHashOf [hashInt p.1,hashInt p.2])
def RT(q:Wb):Int:=reduceHash (Builtin.Tuple.tupleHashOf ((Q0 q).map RN))
def O7(x:Wb×V8×V0):DictEntry:=⟨RT x.1,.ref x.2.1,x.2.2⟩
def O6(a:V8)(ep:Nat)(ks:Wa)(bs:VT)(vs:Wh)(h:V4):Prop:=
 ∃o es us,h.get? a=some o/\o.ExactDict/\o.data=.dict es ep/\aw vs us/\es.toList=(gG ks bs us).map O7/\ks.Nodup/\(a==sysModules)=false/\ks.length<=16000000/\bs.length=ks.length/\us.length=ks.length
def AB(K:Fg)(H:Hp)(ks:Wa)(bs:VT):Prop:=∀(i:Nat) k b,ks[i]?=some k->bs[i]?=some b->∃ps cs,k=QY ps/\c7 K H b (cs.map .ref)/\ik K H ps cs
mutual
def Rep(K:Fg)(H:Hp):D->V->Prop
 | .non,v=>v=.non
 | .bl b,v=>v=.bl b
 | .int i,v=>v=.int i
 | .str x,v=>v=.str x/\PyData.strOk x=true
 | .tup ds,v=>∃a vs,v=.ref a/\c7 K H a vs/\ai K H ds vs
 | .lst ds,v=>∃a vs,v=.ref a/\cW K H a vs/\ai K H ds vs
 | .dct ks,v=>∃a,v=.ref a/\y8 K H H a ks
 | .st ps,v=>∃a bs,v=.ref a/\bs.length=ps.length/\H a=some (.ext (gg a ps bs))/\∀(i:Nat) p b,ps[i]?=some p->bs[i]?=some b->c7 K H b [.int p.1,.int p.2]
 | .ln n,v=>∃a,v=.ref a/\H a=some (.ext (K6 a n))
 | .mp th ks ds,v=>∃a bs vs,v=.ref a/\H a=some (.ext (ck th a ks bs vs))/\fH K H ks bs/\ai K H ds vs
 | .ix th ks ds,v=>∃a o vs,v=.ref a/\H a=some (.ext (iN a o))/\Es th o a ks vs/\ai K H ds vs
 | .nt ks ds,v=>∃a ep bs vs,v=.ref a/\H a=some (.ext (O6 a ep ks bs vs))/\AB K H ks bs/\ai K H ds vs
 | .ob ns ds,v=>∃x C dx vs,v=.ref x/\H x=some (.ins C dx (ns.zip vs))/\zR K C/\(∀n∈ns,dX K C n)/\ai K H ds vs
def ai(K:Fg)(H:Hp):Wf->Wh->Prop
 | [],vs=>vs=[]
 | d::ds,vs=>∃v r,vs=v::r/\Rep K H d v/\ai K H ds r
end
theorem cI{K:Fg}{H H':Hp}{a:V8}{xs:Wh}(e:aD H H')(h:c7 K H a xs):c7 K H' a xs:=by
 rcases h with (h | ⟨o,h⟩) | h
 .exact .inl (.inl (e _ _ h))
 .exact .inl (.inr ⟨o,e _ _ h⟩)
 .exact .inr h
theorem fH.mono{K:Fg}{H H':Hp}(s:aD H H'){ks:Wa}{bs:VT}(h:fH K H ks bs):fH K H' ks bs:=λi k b h1 h2=>cI s (h i k b h1 h2)
theorem ik.mono{K:Fg}{H H':Hp}(s:aD H H'){ps:VN}{bs:VT}(h:ik K H ps bs):ik K H' ps bs:=⟨h.1,λi p b h1 h2=>cI s (h.2 i p b h1 h2)⟩
theorem AB.mono{K:Fg}{H H':Hp}(s:aD H H'){ks:Wa}{bs:VT}(h:AB K H ks bs):AB K H' ks bs:=λi k b h1 h2=>let ⟨ps,cs,e,q,r⟩:=h i k b h1 h2;⟨ps,cs,e,cI s q,r.mono s⟩
theorem y8.mono{K:Fg}{Z Z' H H':Hp}(z:aD Z Z')(s:aD H H'){a:V8}{ks:VN}(h:y8 K Z H a ks):y8 K Z' H' a ks:=let ⟨bs,e,r⟩:=h;⟨bs,s _ _ e,r.mono z⟩
mutual
theorem Rep.mono{K:Fg}{H H':Hp}(s:aD H H'):∀(d:D){v:V},Rep K H d v->Rep K H' d v
 | .non,_,h=>h
 | .bl _,_,h=>h
 | .int _,_,h=>h
 | .str _,_,h=>h
 | .tup ds,_,⟨a,vs,e,q,r⟩=>⟨a,vs,e,cI s q,ai.mono s ds r⟩
 | .lst ds,_,⟨a,vs,e,q,r⟩=>⟨a,vs,e,s.seq q,ai.mono s ds r⟩
 | .dct ks,_,⟨a,e,q⟩=>⟨a,e,q.mono s s⟩
 | .st ps,_,⟨a,bs,e,l,q,r⟩=>⟨a,bs,e,l,s _ _ q,λi p b h1 h2=>cI s (r i p b h1 h2)⟩
 | .ln n,_,⟨a,e,q⟩=>⟨a,e,s _ _ q⟩
 | .mp th ks ds,_,⟨a,bs,vs,e,q,r,t⟩=>⟨a,bs,vs,e,s _ _ q,r.mono s,ai.mono s ds t⟩
 | .ix th ks ds,_,⟨a,o,vs,e,q,r,t⟩=>⟨a,o,vs,e,s _ _ q,r,ai.mono s ds t⟩
 | .nt ks ds,_,⟨a,ep,bs,vs,e,q,r,t⟩=>⟨a,ep,bs,vs,e,s _ _ q,r.mono s,ai.mono s ds t⟩
 | .ob ns ds,_,⟨x,C,dx,vs,e,q,c,n,t⟩=>⟨x,C,dx,vs,e,s _ _ q,c,n,ai.mono s ds t⟩
theorem ai.mono{K:Fg}{H H':Hp}(s:aD H H'):∀(ds:Wf){vs:Wh},ai K H ds vs->ai K H' ds vs
 | [],_,h=>h
 | d::ds,_,⟨v,r,e,h,q⟩=>⟨v,r,e,Rep.mono s d h,ai.mono s ds q⟩
end
theorem ai.len{K:Fg}{H:Hp}:∀{ds:Wf}{vs:Wh},ai K H ds vs->ds.length=vs.length
 | [],_,h=>by cases(show _=[]from h);rfl
 | d::ds,_,⟨v,r,e,_,q⟩=>by subst e;simp[ai.len q]
theorem ai.get{K:Fg}{H:Hp}:∀{ds:Wf}{vs:Wh}{i:Nat}{d:D},ai K H ds vs->ds[i]?=some d->∃v,vs[i]?=some v/\Rep K H d v
 | [],_,_,_,_,e=>by simp at e
 | d::ds,_,0,_,⟨v,r,e,h,q⟩,e2=>by subst e;simp at e2;subst e2;exact⟨v,rfl,h⟩
 | d::ds,_,i+1,_,⟨v,r,e,h,q⟩,e2=>by subst e;simpa using ai.get (i:=i) q (by simpa using e2)
theorem ai.getV{K:Fg}{H:Hp}{ds:Wf}{vs:Wh}{i:Nat}{v:V}(h:ai K H ds vs)(e:vs[i]?=some v):∃d,ds[i]?=some d/\Rep K H d v:=by
 have hl:=h.len;have hi:i<vs.length:=(s_.mp e).1;have hd:ds[i]?=some (ds[i]'(by lia)):=by simp[hl,hi]
 obtain⟨w,e2,r⟩:=h.get hd;rw[e]at e2;cases e2;exact⟨_,hd,r⟩
theorem ai.app{K:Fg}{H:Hp}:∀{ds es:Wf}{vs us:Wh},ai K H ds vs->ai K H es us->ai K H (ds++es) (vs++us)
 | [],_,_,_,h,q=>by cases(show _=[]from h);exact q
 | d::ds,_,_,_,⟨v,r,e,h,q⟩,q2=>by subst e;exact⟨v,_,rfl,h,ai.app q q2⟩
theorem ai.one{K:Fg}{H:Hp}{d:D}{v:V}(h:Rep K H d v):ai K H [d] [v]:=⟨v,[],rfl,h,rfl⟩
theorem ai.cons{K:Fg}{H:Hp}{d:D}{v:V}{ds:Wf}{vs:Wh}(h:Rep K H d v)(r:ai K H ds vs):ai K H (d::ds) (v::vs):=⟨v,vs,rfl,h,r⟩
theorem ai.drop{K:Fg}{H:Hp}:∀{ds:Wf}{vs:Wh}(n:Nat),ai K H ds vs->ai K H (ds.drop n) (vs.drop n)
 | _,_,0,q=>q
 | [],_,_+1,q=>by cases(show _=[]from q);rfl
 | _::_,_,n+1,⟨w,r,e,z,q⟩=>by subst e;exact ai.drop n q
theorem ai.take{K:Fg}{H:Hp}:∀{ds:Wf}{vs:Wh}(n:Nat),ai K H ds vs->ai K H (ds.take n) (vs.take n)
 | _,_,0,q=>rfl
 | [],_,_+1,q=>by cases(show _=[]from q);rfl
 | _::_,_,n+1,⟨w,r,e,z,q⟩=>by subst e;exact⟨w,_,rfl,z,ai.take n q⟩
theorem ai.ints{K:Fg}{H:Hp}:∀(ns:VX),ai K H (ns.map D.int) (ns.map V.int)
 | []=>rfl
 | n::ns=>⟨_,_,rfl,rfl,ai.ints ns⟩
abbrev Nf(Z Z':Hp):Prop:=∀a ob u,Z' a=some (.frz ob u)->Z a=some (.frz ob u)
abbrev NF(o:HO):Prop:=∀ob u,o≠.frz ob u
theorem Kh:NF (.lst xs):=λ_ _ z=>by cases z
theorem RV:NF (.tup xs):=λ_ _ z=>by cases z
theorem Jh:NF (.ext φ):=λ_ _ z=>by cases z
theorem kX(n:Nf Z Z')(hf:NF o):Nf Z (upd Z' p o):=λa ob u e=>by
 by_cases hb:a=p
 .subst hb;rw[av]at e;cases e;exact absurd rfl (hf ob u)
 .rw[au hb]at e;exact n a ob u e
structure Ex(Z H Z' H':Hp):Prop where
 h:aD H H'
 z:aD Z Z'
 zh:aD Z' H'
 fr:∀a,H a≠none->Z a=none->Z' a=none
 nf:Nf Z Z'
theorem Ex.refl(s:aD Z H):Ex Z H Z H:=⟨aD.refl _,aD.refl _,s,λ_ _ h=>h,λ_ _ _ h=>h⟩
theorem fY(s:aD H H')(h:H a≠none):H' a≠none:=by
 cases e:H a with
 | none=>exact absurd e h
 | some o=>rw[s a o e];simp
theorem Ex.trans(x:Ex Z H Z1 H1)(y:Ex Z1 H1 Z2 H2):Ex Z H Z2 H2:=
 ⟨x.h.trans y.h,x.z.trans y.z,y.zh,λa h e=>y.fr a (fY x.h h) (x.fr a h e),λa o u h=>x.nf a o u (y.nf a o u h)⟩
theorem Ex.transB(x:Ex Z B Z1 H1)(y:Ex Z1 B Z2 H2):Ex Z B Z2 H2:=
 ⟨y.h,x.z.trans y.z,y.zh,λa h e=>y.fr a h (x.fr a h e),λa o u h=>x.nf a o u (y.nf a o u h)⟩
theorem Ex.part(b:aD B H)(x:Ex Z H Z' H'):Ex Z B Z' H':=⟨b.trans x.h,x.z,x.zh,λa h e=>x.fr a (fY b h) e,x.nf⟩
theorem dj(h:H p=none):aD H (upd H p o):=λb u e=>by rw[au (bf e h)];exact e
theorem G8(s:aD Z H)(h:H p=none):aD (upd Z p o) (upd H p o):=λb u e=>by
 by_cases hb:b=p
 .subst hb;rw[av]at e ⊢;exact e
 .rw[au hb]at e ⊢;exact s b u e
theorem bU(s:aD Z H)(h:Z p=none):aD Z (upd H p o):=λb u e=>by
 rw[au (bf e h)];exact s b u e
theorem lV(s:aD Z H)(h:H p=some o):aD (upd Z p o) H:=λb u e=>by
 by_cases hb:b=p
 .subst hb;rw[av]at e;cases e;exact h
 .rw[au hb]at e;exact s b u e
theorem Ex.new(s:aD Z H)(h:H p=none)(hf:NF o:=by first | exact RV | exact Kh | exact Jh):Ex Z H (upd Z p o) (upd H p o):=
 ⟨dj h,dj (s.free h),G8 s h,λa ha e=>by rw[au (λz=>ha (by rw[z];exact h))];exact e,kX (λ_ _ _ h=>h) hf⟩
theorem Ex.newL(s:aD Z H)(h:H p=none):Ex Z H Z (upd H p o):=
 ⟨dj h,aD.refl _,bU s (s.free h),λ_ _ e=>e,λ_ _ _ h=>h⟩
def zm(K:Fg)(Z H:Hp)(a:V8)(th:Str->Int)(ks:Wa)(ds:Wf):Prop:=∃bs vs,H a=some (.ext (ck th a ks bs vs))/\fH K Z ks bs/\ai K Z ds vs
theorem zm.mono{K:Fg}{Z Z' H H':Hp}(z:aD Z Z')(s:aD H H'){a:V8}{th:Str->Int}{ks:Wa}{ds:Wf}(h:zm K Z H a th ks ds):zm K Z' H' a th ks ds:=let ⟨bs,vs,e,r,t⟩:=h;⟨bs,vs,s _ _ e,r.mono z,ai.mono z ds t⟩
inductive Gr where | pk | cl | nw | nd | nm
def Gd(K:Fg)(Z' H H':Hp):Gr->D->V->Prop
 | .pk,d,v=>Rep K Z' d v\/(∃a vs ds,v=.ref a/\d=.lst ds/\H' a=some (.lst vs)/\ai K Z' ds vs)\/(∃a ks,v=.ref a/\d=.dct ks/\y8 K Z' H' a ks)\/∃a th ks ds,v=.ref a/\d=.mp th ks ds/\zm K Z' H' a th ks ds
 | .cl,d,v=>Rep K Z' d v
 | .nw,d,v=>∃a vs ds,v=.ref a/\d=.lst ds/\H a=none/\H' a=some (.lst vs)/\Z' a=none/\ai K Z' ds vs
 | .nd,d,v=>∃a ks,v=.ref a/\d=.dct ks/\H a=none/\y8 K Z' H' a ks/\Z' a=none
 | .nm,d,v=>∃a th ks ds,v=.ref a/\d=.mp th ks ds/\H a=none/\zm K Z' H' a th ks ds/\Z' a=none
section
variable {K:Fg}{Z Z' H H':Hp}{g:Gr}{d:D}{v:V}
theorem Gd.pk(h:Gd K Z' H H' g d v):Gd K Z' H3 H' .pk d v:=by
 cases g with
 | pk=>exact h
 | cl=>exact .inl h
 | nw=>obtain⟨a,vs,ds,e1,e2,_,e3,_,r⟩:=h;exact .inr (.inl ⟨a,vs,ds,e1,e2,e3,r⟩)
 | nd=>obtain⟨a,ks,e1,e2,_,e3,_⟩:=h;exact .inr (.inr (.inl ⟨a,ks,e1,e2,e3⟩))
 | nm=>obtain⟨a,th,ks,ds,e1,e2,_,e3,_⟩:=h;exact .inr (.inr (.inr ⟨a,th,ks,ds,e1,e2,e3⟩))
theorem Gd.rep(s:aD Z' H')(h:Gd K Z' H H' g d v):Rep K H' d v:=by
 rcases(h.pk (H3:=H))with h | ⟨a,vs,ds,rfl,rfl,e,r⟩ | ⟨a,ks,rfl,rfl,e⟩ | ⟨a,th,ks,ds,rfl,rfl,bs,vs,e,r,t⟩
 .exact Rep.mono s d h
 .exact⟨a,vs,rfl,cW.of e,ai.mono s ds r⟩
 .exact⟨a,rfl,e.mono s (aD.refl _)⟩
 .exact⟨a,bs,vs,rfl,e,r.mono s,ai.mono s ds t⟩
theorem Gd.lst{ds:Wf}(s:aD Z' H')(h:Gd K Z' H H' g (.lst ds) v):∃a vs,v=.ref a/\cW K H' a vs/\ai K Z' ds vs:=by
 rcases(h.pk (H3:=H))with ⟨a,vs,e,q,r⟩ | ⟨a,vs,Jy,rfl,e,e2,r⟩ | ⟨_,_,_,e,_⟩ | ⟨_,_,_,_,_,e,_⟩
 .exact⟨a,vs,e,s.seq q,r⟩
 .cases e;exact⟨a,vs,rfl,cW.of e2,r⟩
 .cases e
 .cases e
theorem Gd.mp(s:aD Z' H')(h:Gd K Z' H H' g (.mp th ks ds) v):∃a,v=.ref a/\zm K Z' H' a th ks ds:=by
 rcases(h.pk (H3:=H))with ⟨a,bs,vs,e,q,r,t⟩ | ⟨_,_,_,_,e,_⟩ | ⟨_,_,_,e,_⟩ | ⟨a,FQ,Jz,Jy,rfl,e,q⟩
 .exact⟨a,e,bs,vs,s _ _ q,r,t⟩
 .cases e
 .cases e
 .cases e;exact⟨a,rfl,q⟩
theorem Gd.tup{ds:Wf}(s:aD Z' H')(h:Gd K Z' H H' g (.tup ds) v):∃a vs,v=.ref a/\c7 K H' a vs/\ai K Z' ds vs:=by
 rcases(h.pk (H3:=H))with ⟨a,vs,e,q,r⟩ | ⟨a,vs,Jy,rfl,e,e2,r⟩ | ⟨_,_,_,e,_⟩ | ⟨_,_,_,_,_,e,_⟩
 .exact⟨a,vs,e,cI s q,r⟩
 .cases e
 .cases e
 .cases e
theorem Gd.int{i:Int}(h:Gd K Z' H H' g (.int i) v):v=.int i:=by
 rcases(h.pk (H3:=H))with h | ⟨_,_,_,_,e,_⟩ | ⟨_,_,_,e,_⟩ | ⟨_,_,_,_,_,e,_⟩
 .exact h
 .cases e
 .cases e
 .cases e
theorem Gd.bl(h:Gd K Z' H H' g (.bl b) v):v=.bl b:=by
 rcases(h.pk (H3:=H))with h | ⟨_,_,_,_,e,_⟩ | ⟨_,_,_,e,_⟩ | ⟨_,_,_,_,_,e,_⟩
 .exact h
 .cases e
 .cases e
 .cases e
theorem Gd.str{x:Str}(h:Gd K Z' H H' g (.str x) v):v=.str x:=by
 rcases(h.pk (H3:=H))with h | ⟨_,_,_,_,e,_⟩ | ⟨_,_,_,e,_⟩ | ⟨_,_,_,_,_,e,_⟩
 .exact h.1
 .cases e
 .cases e
 .cases e
theorem Gd.later(x:Ex Z' H' Z2 H2)(h:Gd K Z' H H' g d v):Gd K Z2 H3 H2 .pk d v:=by
 rcases(h.pk (H3:=H))with h | ⟨a,vs,ds,e1,e2,e3,r⟩ | ⟨a,ks,e1,e2,e3⟩ | ⟨a,th,ks,ds,e1,e2,e3⟩
 .exact .inl (Rep.mono x.z d h)
 .exact .inr (.inl ⟨a,vs,ds,e1,e2,x.h _ _ e3,ai.mono x.z ds r⟩)
 .exact .inr (.inr (.inl ⟨a,ks,e1,e2,e3.mono x.z x.h⟩))
 .exact .inr (.inr (.inr ⟨a,th,ks,ds,e1,e2,e3.mono x.z x.h⟩))
end
inductive ox where
 | L (ds:List D) | T (ks:List (Int×Int)) | M (th:Str->Int) (ks:List (List Key)) (ds:List D) | I (th:Str->Int) (ks:List Key) (ds:List D) | N (ks:List (List Key)) (ds:List D)
def dq(K:Fg)(Z:Hp)(a:V8):ox->HO->Prop
 | .L ds,o=>∃vs,o=.lst vs/\ai K Z ds vs
 | .T ks,o=>∃bs,o=.ext (Iu a ks bs)/\ik K Z ks bs
 | .M th ks ds,o=>∃bs vs,o=.ext (ck th a ks bs vs)/\fH K Z ks bs/\ai K Z ds vs
 | .I th ks ds,o=>∃ob vs,o=.ext (iN a ob)/\Es th ob a ks vs/\ai K Z ds vs
 | .N ks ds,o=>∃ep bs vs,o=.ext (O6 a ep ks bs vs)/\AB K Z ks bs/\ai K Z ds vs
def ox.d:ox->D
 | .L ds=>.lst ds
 | .T ks=>.dct ks
 | .M th ks ds=>.mp th ks ds
 | .I th ks ds=>.ix th ks ds
 | .N ks ds=>.nt ks ds
def ox.pd:ox->Wg
 | .L ds=>some (.lst ds)
 | .T ks=>some (.dct ks)
 | .M th ks ds=>some (.mp th ks ds)
 | .I _ _ _=>none
 | .N _ _=>none
theorem dq.l{K:Fg}{Z:Hp}{a:V8}{ds:Wf}{vs:Wh}(h:ai K Z ds vs):dq K Z a (.L ds) (.lst vs):=⟨vs,rfl,h⟩
theorem dq.mono{K:Fg}{Z Z':Hp}(s:aD Z Z'){a:V8}{w:ox}{o:HO}(h:dq K Z a w o):dq K Z' a w o:=by
 cases w with
 | L ds=>obtain⟨vs,e,r⟩:=h;exact⟨vs,e,ai.mono s ds r⟩
 | T ks=>obtain⟨bs,e,r⟩:=h;exact⟨bs,e,r.mono s⟩
 | M th ks ds=>obtain⟨bs,vs,e,r,t⟩:=h;exact⟨bs,vs,e,r.mono s,ai.mono s ds t⟩
 | I th ks ds=>obtain⟨ob,vs,e,r,t⟩:=h;exact⟨ob,vs,e,r,ai.mono s ds t⟩
 | N ks ds=>obtain⟨ep,bs,vs,e,r,t⟩:=h;exact⟨ep,bs,vs,e,r.mono s,ai.mono s ds t⟩
theorem dq.rep{K:Fg}{Z:Hp}{w:ox}{o:HO}{a:V8}(h:dq K Z a w o)(e:Z a=some o):Rep K Z w.d (.ref a):=by
 cases w with
 | L ds=>obtain⟨vs,rfl,r⟩:=h;exact⟨a,vs,rfl,cW.of e,r⟩
 | T ks=>obtain⟨bs,rfl,r⟩:=h;exact⟨a,rfl,bs,e,r⟩
 | M th ks ds=>obtain⟨bs,vs,rfl,r,t⟩:=h;exact⟨a,bs,vs,rfl,e,r,t⟩
 | I th ks ds=>obtain⟨ob,vs,rfl,r,t⟩:=h;exact⟨a,ob,vs,rfl,e,r,t⟩
 | N ks ds=>obtain⟨ep,bs,vs,rfl,r,t⟩:=h;exact⟨a,ep,bs,vs,rfl,e,r,t⟩
theorem dq.nf{K:Fg}{Z:Hp}{w:ox}{o:HO}{a:V8}(h:dq K Z a w o):NF o:=by
 cases w with
 | L ds=>obtain⟨vs,rfl,r⟩:=h;exact Kh
 | T ks=>obtain⟨bs,rfl,r⟩:=h;exact Jh
 | M th ks ds=>obtain⟨bs,vs,rfl,r,t⟩:=h;exact Jh
 | I th ks ds=>obtain⟨ob,vs,rfl,r,t⟩:=h;exact Jh
 | N ks ds=>obtain⟨ep,bs,vs,rfl,r,t⟩:=h;exact Jh
inductive Slot where
 | un | F (d:D) | O (w:ox) | A (a:Addr)
def rm(K:Fg)(Z H:Hp):Slot->Option V->Prop
 | .un,_=>True
 | .F d,x=>∃v,x=some v/\Rep K Z d v
 | .O w,x=>∃a o,x=some (.ref a)/\H a=some o/\Z a=none/\dq K Z a w o
 | .A a,x=>x=some (.ref a)
abbrev En:=List Slot
abbrev Wc:=En->We
structure Rl(K:Fg)(B Z H:Hp)(env:En)(σ:L2.St):Prop where
 bh:aD B H
 zh:aD Z H
 len:env.length=σ.length
 sl:∀(i:Nat) s,env[i]?=some s->∃x,σ[i]?=some x/\rm K Z H s x
 ob:∀(i:Nat) ds a,env[i]?=some (.O ds)->σ[i]?=some (some (.ref a))->B a=none
 ap:∀(i j:Nat) ds es a,i≠j->env[i]?=some (.O ds)->env[j]?=some (.O es)->σ[i]?=some (some (.ref a))->σ[j]?≠some (some (.ref a))
section
variable {K:Fg}{B Z H Z' H':Hp}{env:En}{σ:L2.St}
theorem rm.ext(e:Ex Z H Z' H')(h:rm K Z H s x):rm K Z' H' s x:=by
 cases s with
 | un=>trivial
 | F d=>obtain⟨v,e1,r⟩:=h;exact⟨v,e1,Rep.mono e.z d r⟩
 | O w=>obtain⟨a,o,e1,e2,e3,r⟩:=h;exact⟨a,o,e1,e.h _ _ e2,e.fr a (by rw[e2];simp) e3,r.mono e.z⟩
 | A a=>exact h
theorem Rl.ext(R:Rl K B Z H env σ)(e:Ex Z H Z' H'):Rl K B Z' H' env σ:=
 ⟨R.bh.trans e.h,e.zh,R.len,λi s h=>let ⟨x,h1,h2⟩:=R.sl i s h;⟨x,h1,h2.ext e⟩,R.ob,R.ap⟩
theorem Rl.setF(R:Rl K B Z H env σ)(i:Nat)(r:Rep K Z d v):Rl K B Z H (env.set i (.F d)) (σ.set i (some v)):=by
 refine⟨R.bh,R.zh,by simp[R.len],λj s h=>?_,λj ds a h h2=>?_,λj k ds es a hne h1 h2 h3 h4=>?_⟩
 .by_cases hj:i=j
  .subst hj
   by_cases hl:i<env.length
   .rw[A_ hl]at h;cases h;exact⟨some v,A_ (by rw[<- R.len];exact hl),v,rfl,r⟩
   .rw[So (by simpa using Ss hl)]at h;cases h
  .rw[n_ hj]at h ⊢;exact R.sl j s h
 .by_cases hj:i=j
  .subst hj
   by_cases hl:i<env.length
   .rw[A_ hl]at h;cases h
   .rw[So (by simpa using Ss hl)]at h;cases h
  .rw[n_ hj]at h h2;exact R.ob j ds a h h2
 .have zJ:∀{j:Nat}{ds:ox},(env.set i (.F d))[j]?=some (.O ds)->i≠j:=λ{j ds} h z=>by
   subst z
   by_cases hl:i<env.length
   .rw[A_ hl]at h;cases h
   .rw[So (by simpa using Ss hl)]at h;cases h
  have n1:=zJ h1;have n2:=zJ h2;rw[n_ n1]at h1 h3;rw[n_ n2]at h2 h4;exact R.ap j k ds es a hne h1 h2 h3 h4
theorem Rl.setO(R:Rl K B Z H env σ)(i:Nat)(hb:B a=none)(hz:Z a=none)(hh:H a=some vs)(r:dq K Z a ds vs)
  (hn:∀(j:Nat) es,j≠i->env[j]?=some (.O es)->σ[j]?≠some (some (.ref a))):Rl K B Z H (env.set i (.O ds)) (σ.set i (some (.ref a))):=by
 have atI:∀{s:Slot},(env.set i (.O ds))[i]?=some s->s=.O ds/\(σ.set i (some (V.ref a)))[i]?=some (some (.ref a)):=λ{s} h=>by
  by_cases hl:i<env.length
  .rw[A_ hl]at h;cases h;exact⟨rfl,A_ (by rw[<- R.len];exact hl)⟩
  .rw[So (by simpa using Ss hl)]at h;cases h
 refine⟨R.bh,R.zh,by simp[R.len],λj s h=>?_,λj es b h h2=>?_,λj k es fs b hne h1 h2 h3 h4=>?_⟩
 .by_cases hj:i=j
  .subst hj;obtain⟨e1,e2⟩:=atI h;subst e1;exact⟨_,e2,a,vs,rfl,hh,hz,r⟩
  .rw[n_ hj]at h ⊢;exact R.sl j s h
 .by_cases hj:i=j
  .subst hj;obtain⟨_,e2⟩:=atI h;rw[e2]at h2;cases h2;exact hb
  .rw[n_ hj]at h h2;exact R.ob j es b h h2
 .by_cases hj:i=j
  .subst hj;obtain⟨_,e2⟩:=atI h1;rw[e2]at h3;cases h3;rw[n_ hne]at h2 h4;exact hn k fs (SR hne) h2 h4
  .by_cases hk:i=k
   .subst hk;obtain⟨_,e2⟩:=atI h2;rw[e2]at h4;cases h4;rw[n_ hj]at h1 h3;exact hn j es (SR hj) h1 h3
   .rw[n_ hj]at h1 h3;rw[n_ hk]at h2 h4;exact R.ap j k es fs b hne h1 h2 h3 h4
theorem Rl.wr(R:Rl K B Z H env σ)(hi:env[i]?=some (.O ds))(ha:σ[i]?=some (some (.ref a)))(r:dq K Z a es vs) :
  Rl K B Z (upd H a vs) (env.set i (.O es)) σ/\Ex Z B Z (upd H a vs):=by
 have hb:=R.ob i ds a hi ha;obtain⟨x,e1,b,us,e2,e3,hz,_⟩:=R.sl i _ hi;rw[ha]at e1;cases e1;cases e2;have hl:i<env.length:=(s_.mp hi).1;have sb:aD B (upd H a vs):=bU R.bh hb;have sz:aD Z (upd H a vs):=bU R.zh hz;refine⟨⟨sb,sz,by simp[R.len],λj s h=>?_,λj fs b h h2=>?_,λj k fs gs b hne h1 h2 h3 h4=>?_⟩,⟨sb,aD.refl _,sz,λ_ _ e=>e,λ_ _ _ h=>h⟩⟩
 .by_cases hj:i=j
  .subst hj;rw[A_ hl]at h;cases h;exact⟨_,ha,a,vs,rfl,av,hz,r⟩
  .rw[n_ hj]at h;obtain⟨x,e1,q⟩:=R.sl j s h;refine⟨x,e1,?_⟩;cases s with
   | un=>trivial
   | F d=>exact q
   | A a=>exact q
   | O fs=>
    obtain⟨b,pO,e4,e5,e6,q⟩:=q;refine⟨b,pO,e4,?_,e6,q⟩;rw[au (λz=>?_)]
    .exact e5
    .subst z;subst e4;exact R.ap i j ds fs b hj hi h ha e1
 .by_cases hj:i=j
  .subst hj;rw[ha]at h2;cases h2;exact hb
  .rw[n_ hj]at h;exact R.ob j fs b h h2
 .have old:∀{j:Nat}{fs:ox},(env.set i (.O es))[j]?=some (.O fs)->∃MH,env[j]?=some (.O MH):=λ{j fs} h=>by
   by_cases hj:i=j
   .subst hj;exact⟨ds,hi⟩
   .rw[n_ hj]at h;exact⟨fs,h⟩
  obtain⟨MH,JA⟩:=old h1;obtain⟨gs',h2'⟩:=old h2;exact R.ap j k MH gs' b hne JA h2' h3 h4
theorem Rl.frz{ds:ox}(R:Rl K B Z H env σ){i:Nat}(hi:env[i]?=some (.O ds)):∃Z',Rl K B Z' H (env.set i (.F ds.d)) σ/\Ex Z B Z' H:=by
 obtain⟨x,e1,a,vs,e2,e3,hz,r⟩:=R.sl i _ hi;subst e2;have hb:=R.ob i ds a hi e1;have hl:i<env.length:=(s_.mp hi).1;have s1:aD Z (upd Z a vs):=dj hz;have s2:aD (upd Z a vs) H:=lV R.zh e3;refine⟨upd Z a vs,⟨R.bh,s2,by simp[R.len],λj s h=>?_,λj fs b h h2=>?_,λj k fs gs b hne h1 h2 h3 h4=>?_⟩,⟨R.bh,s1,s2,λb MS e=>?_,kX (λ_ _ _ h=>h) r.nf⟩⟩
 .by_cases hj:i=j
  .subst hj;rw[A_ hl]at h;cases h;exact⟨_,e1,_,rfl,(r.mono s1).rep av⟩
  .rw[n_ hj]at h;obtain⟨y,e4,q⟩:=R.sl j s h;refine⟨y,e4,?_⟩;cases s with
   | un=>trivial
   | F d=>obtain⟨v,e5,q⟩:=q;exact⟨v,e5,Rep.mono s1 d q⟩
   | A a=>exact q
   | O fs=>
    obtain⟨b,pO,e5,e6,e7,q⟩:=q;refine⟨b,pO,e5,e6,?_,q.mono s1⟩;rw[au (λz=>?_)]
    .exact e7
    .subst z;subst e5;exact R.ap i j ds fs b hj hi h e1 e4
 .by_cases hj:i=j
  .subst hj;rw[A_ hl]at h;cases h
  .rw[n_ hj]at h;exact R.ob j fs b h h2
 .have zJ:∀{j:Nat}{es:ox},(env.set i (.F ds.d))[j]?=some (.O es)->i≠j:=λ{j es} h z=>by
   subst z;rw[A_ hl]at h;cases h
  have n1:=zJ h1;have n2:=zJ h2;rw[n_ n1]at h1;rw[n_ n2]at h2;exact R.ap j k fs gs b hne h1 h2 h3 h4
 .rw[au (λz=>MS (by rw[z];exact hb))];exact e
end
abbrev Fe:=En->Wg
abbrev Fb:=En->Option Bool
abbrev Wl:Fb:=λ_=>some true
abbrev Fes:=En->We
def T(K:Fg)(g:Gr)(f:Fe):TE:=λσ H Q=>∃env B Z d,Rl K B Z H env σ/\f env=some d/\∀v Z' H',Ex Z H Z' H'->Gd K Z' H H' g d v->Q v H'
def TB(K:Fg)(f:Fb):TT:=λσ H Q=>∃env B Z b,Rl K B Z H env σ/\f env=some b/\∀Z' H',Ex Z H Z' H'->Q b H'
def TL(K:Fg)(f:Fes):TA:=λσ H Q=>∃env B Z ds,Rl K B Z H env σ/\f env=some ds/\∀vs Z' H',Ex Z H Z' H'->ai K Z' ds vs->Q vs H'
def PD(X:Cx)(g:Gr)(e:V9)(f:Fe):Prop:=PE X e (T X.K g f)
def PB(X:Cx)(e:V9)(f:Fb):Prop:=PT X e (TB X.K f)
def Ik(X:Cx)(e:V9)(f:Fb):Prop:=PW X e (TB X.K f)
structure PL(X:Cx)(es:List Expr)(f:Fes):Prop where
 p:PA X es (TL X.K f)
 l:∀env ds,f env=some ds->ds.length=es.length
section
variable {X:Cx}
theorem PE.imp(h:PE X e t)(i:∀σ H Q,t' σ H Q->t σ H Q):PE X e t':=λpins s σ H Q I q=>h pins s σ H Q I (i σ H Q q)
theorem PT.imp(h:PT X e t)(i:∀σ H Q,t' σ H Q->t σ H Q):PT X e t':=λpins s σ H Q I q=>h pins s σ H Q I (i σ H Q q)
theorem PW.imp(h:PW X e t)(i:∀σ H Q,t' σ H Q->t σ H Q):PW X e t':=λwh pins s σ H Q I q=>h wh pins s σ H Q I (i σ H Q q)
theorem PA.imp(h:PA X e t)(i:∀σ H Q,t' σ H Q->t σ H Q):PA X e t':=λpos pins s σ H Q I q=>h pos pins s σ H Q I (i σ H Q q)
def fC(d:D):Fe:=λ_=>some d
abbrev Wk:Fe:=fC (.int 3)
abbrev Wj:Fe:=fC (.int 1)
abbrev Wi:Fe:=fC (.int 0)
theorem DN{K:Fg}{g:D}{v:V}{σ:L2.St}{H:Hp}{Q:VK}(h:T K .cl (fC g) σ H Q)(r:∀Z,Rep K Z g v):Q v H:=by
 obtain⟨env,B,Z,d,R,e,k⟩:=h;cases e;exact k v Z H (Ex.refl R.zh) (r Z)
theorem ar{i j pos}:PD X .cl (.Constant (.int i) j pos) (fC (.int i)):=PE.imp IK λ_ _ _ h=>DN h λ_=>rfl
theorem lx{b j pos}:PD X .cl (.Constant (.bool b) j pos) (fC (.bl b)):=PE.imp MB λ_ _ _ h=>DN h λ_=>rfl
theorem bL{x j pos}(hk:PyData.strOk x=true:=by decide +kernel):PD X .cl (.Constant (.str x) j pos) (fC (.str x)):=PE.imp IA λ_ _ _ h=>DN h λ_=>⟨rfl,hk⟩
theorem my(hm:X.mg x=some u)(rv:RelV v u)(r:∀Z,Rep X.K Z d v)(hg:Gl X x:=by rfl)(hd:(x==("__debug__":Str))=false:=by decide) :
  PD X .cl (.Name x pos) (fC d):=PE.imp (D8 hg hm rv hd) λ_ _ _ h=>DN h r
def gF(env:En)(i:Nat):Wg:=match env[i]? with | some (.F d)=>some d | _=>none
def Av(env:En)(i:Nat):Wg:=match env[i]? with | some (.F d)=>some d | some (.O w)=>w.pd | _=>none
theorem aa(i:Nat)(hN:X.N[i]?=some x:=by rfl)(hv:qP X.env.scope x:=by first | exact Or.inl rfl | exact Or.inr (Or.inl rfl) | exact Or.inr (Or.inr rfl))(hd:(x==("__debug__":Str))=false:=by decide)
  (eM:(x==("__classdict__":Str))=false:=by decide):PD X .cl (.Name x pos) (λenv=>gF env i):=PE.imp (cF hN hv hd eM) λσ H Q h=>by
 obtain⟨env,B,Z,d,R,e,k⟩:=h;dsimp only[gF]at e
 split at e
 .rename_i d' h1;cases e;obtain⟨x,h2,v,h3,r⟩:=R.sl i _ h1;subst h3;exact⟨v,h2,k v Z H (Ex.refl R.zh) r⟩
 .cases e
theorem Ow(i:Nat)(hN:X.N[i]?=some x:=by rfl)(hv:qP X.env.scope x:=by first | exact Or.inl rfl | exact Or.inr (Or.inl rfl) | exact Or.inr (Or.inr rfl))(hd:(x==("__debug__":Str))=false:=by decide)
  (eM:(x==("__classdict__":Str))=false:=by decide):PD X .pk (.Name x pos) (λenv=>Av env i):=PE.imp (cF hN hv hd eM) λσ H Q h=>by
 obtain⟨env,B,Z,d,R,e,k⟩:=h;dsimp only[Av]at e
 split at e
 .rename_i d' h1;cases e;obtain⟨x,h2,v,h3,r⟩:=R.sl i _ h1;subst h3;exact⟨v,h2,k v Z H (Ex.refl R.zh) (.inl r)⟩
 .rename_i ds h1;obtain⟨x,h2,a,vs,h3,h4,h5,r⟩:=R.sl i _ h1;subst h3;refine⟨_,h2,k _ Z H (Ex.refl R.zh) ?_⟩;cases ds with
  | I th ks ds=>cases e
  | N ks ds=>cases e
  | L ds=>cases e;obtain⟨us,rfl,r⟩:=r;exact .inr (.inl ⟨a,us,ds,rfl,rfl,h4,r⟩)
  | T ks=>cases e;obtain⟨bs,rfl,r⟩:=r;exact .inr (.inr (.inl ⟨a,ks,rfl,rfl,bs,h4,r⟩))
  | M th ks ds=>cases e;obtain⟨bs,vs,rfl,r,t⟩:=r;exact .inr (.inr (.inr ⟨a,th,ks,ds,rfl,rfl,bs,vs,h4,r,t⟩))
 .cases e
theorem bW(h:PD X .nw e f):PD X .cl e f:=PE.imp h λσ H Q az=>by
 obtain⟨env,B,Z,d,R,e,k⟩:=az;refine⟨env,B,Z,d,R,e,λv Z' H' x g=>?_⟩;obtain⟨a,vs,ds,rfl,rfl,h1,h2,h3,r⟩:=g;have s1:aD Z' (upd Z' a (.lst vs)):=dj h3;exact k _ (upd Z' a (.lst vs)) H' ⟨x.h,x.z.trans s1,lV x.zh h2,λb hb e=>by rw[au (λz=>hb (by rw[z];exact h1))];exact x.fr b hb e,kX x.nf Kh⟩ ⟨a,vs,rfl,cW.of av,ai.mono s1 ds r⟩
theorem GE(h:PD X .nm e f):PD X .cl e f:=PE.imp h λσ H Q az=>by
 obtain⟨env,B,Z,d,R,e,k⟩:=az;refine⟨env,B,Z,d,R,e,λv Z' H' x g=>?_⟩;obtain⟨a,th,ks,ds,rfl,rfl,h1,⟨bs,vs,h2,hp,r⟩,h3⟩:=g;have s1:aD Z' (upd Z' a (.ext (ck th a ks bs vs))):=dj h3;exact k _ (upd Z' a (.ext (ck th a ks bs vs))) H' ⟨x.h,x.z.trans s1,lV x.zh h2,λb hb e=>by rw[au (λz=>hb (by rw[z];exact h1))];exact x.fr b hb e,kX x.nf Jh⟩ ⟨a,bs,vs,rfl,av,hp.mono s1,ai.mono s1 ds r⟩
def fNil:Fes:=λ_=>some []
def ab(f:Fe)(fs:Fes):Fes:=λenv=>(f env).bind λd=>(fs env).bind λds=>some (d::ds)
theorem ah:PL X [] fNil:=⟨PA.imp cj λσ H Q ⟨env,B,Z,ds,R,e,k⟩=>by cases e;exact k [] Z H (Ex.refl R.zh) rfl,λenv ds e=>by cases e;rfl⟩
theorem m9(h:ab f fs env=some ds):∃d r,f env=some d/\fs env=some r/\ds=d::r:=by
 unfold ab at h;refine cT λ_ kq=>?_;obtain⟨d,h1,h2⟩:=a_.mp h;obtain⟨r,h3,h4⟩:=a_.mp h2;cases h4;exact kq (⟨d,r,h1,h3,rfl⟩)
theorem ae(h:PD X .cl e f)(hs:PL X es fs)(hst:starEach (e::es) X.env=(false,eval e X.env)::starEach es X.env:=by rfl):PL X (e::es) (ab f fs):=by
 refine⟨PA.imp (aY h hs.p hst) λσ H Q ⟨env,B,Z,ds,R,e,k⟩=>?_,λenv ds e=>?_⟩
 .obtain⟨d,r,h1,h2,rfl⟩:=m9 e;refine⟨env,B,Z,d,R,h1,λv Z1 H1 x1 g1=>⟨env,B,Z1,r,R.ext x1,h2,λvs Z2 H2 x2 g2=>?_⟩⟩;exact k (v::vs) Z2 H2 (x1.trans x2) ⟨v,vs,rfl,Rep.mono x2.z d g1,g2⟩
 .obtain⟨d,r,h1,h2,rfl⟩:=m9 e;simp[hs.l env r h2]
def a7(fs:Fes):Fe:=λenv=>(fs env).bind λds=>some (.tup ds)
def bV(fs:Fes):Fe:=λenv=>(fs env).bind λds=>some (.lst ds)
theorem aX{x1 pos}(h:PL X es fs)(hl:es.length<=1000:=by decide):PD X .cl (.Tuple es x1 pos) (a7 fs):=PE.imp (Ir h.p) λσ H Q az=>by
 refine cT λ_ kq=>?_;obtain⟨env,B,Z,d,R,e,k⟩:=az;obtain⟨ds,h1,h2⟩:=a_.mp e;cases h2;refine kq (⟨env,B,Z,ds,R,h1,λvs Z1 H1 x1 r=>⟨?_,λp hp=>?_⟩⟩)
 all_goals clear kq
 .rw[<- r.len,h.l env ds h1];exact TX (oA hl)
 .have s1:aD Z1 (upd Z1 p (.tup vs)):=dj (x1.zh.free hp);exact k _ (upd Z1 p (.tup vs)) _ (x1.trans (Ex.new x1.zh hp)) ⟨p,vs,rfl,c7.of av,ai.mono s1 ds r⟩
theorem dr{pos}(h:PL X es fs)(hl:es.length<=1000:=by decide):PD X .nw (.List es pos) (bV fs):=PE.imp (Ih h.p) λσ H Q az=>by
 refine cT λ_ kq=>?_;obtain⟨env,B,Z,d,R,e,k⟩:=az;obtain⟨ds,h1,h2⟩:=a_.mp e;cases h2;refine kq (⟨env,B,Z,ds,R,h1,λvs Z1 H1 x1 r=>⟨?_,λp hp=>?_⟩⟩)
 all_goals clear kq
 .rw[<- r.len,h.l env ds h1];exact TX (oA hl)
 .exact k _ Z1 _ (x1.trans (Ex.newL x1.zh hp)) ⟨p,vs,ds,rfl,rfl,x1.h.free hp,av,x1.zh.free hp,r⟩
theorem rh[Decidable c](h:(if c then some a else none)=some d):c/\a=d:=by
 by_cases hc:c
 .rw[i_ hc]at h;exact⟨hc,Option.some.inj h⟩
 .rw[j_ hc]at h;cases h
def ak(b:D->D->Wg)(fa fb:Fe):Fe:=λenv=>(fa env).bind λx=>(fb env).bind λy=>b x y
theorem Az(h:ak b fa fb env=some d):∃x y,fa env=some x/\fb env=some y/\b x y=some d:=by
 unfold ak at h;refine cT λ_ kq=>?_;obtain⟨x,h1,h2⟩:=a_.mp h;obtain⟨y,h3,h4⟩:=a_.mp h2;exact kq (⟨x,y,h1,h3,h4⟩)
theorem Gd.frm{K:Fg}{Z' H0 H H':Hp}{g:Gr}{d:D}{v:V}(s:aD H0 H)(h:Gd K Z' H H' g d v):Gd K Z' H0 H' g d v:=by
 cases g with
 | pk=>exact h
 | cl=>exact h
 | nw=>obtain⟨a,vs,ds,e1,e2,e3,e4⟩:=h;exact⟨a,vs,ds,e1,e2,s.free e3,e4⟩
 | nd=>obtain⟨a,ks,e1,e2,e3,e4⟩:=h;exact⟨a,ks,e1,e2,s.free e3,e4⟩
 | nm=>obtain⟨a,th,ks,ds,e1,e2,e3,e4⟩:=h;exact⟨a,th,ks,ds,e1,e2,s.free e3,e4⟩
def cX(K:Fg)(g:Gr)(b:D->D->Wg)(r:R2):Prop:=
 ∀{Z H:Hp}{x y:V}{dx dy d:D}{Q:VK},aD Z H->Gd K Z H H .pk dx x->Gd K Z H H .pk dy y->b dx dy=some d->(∀v Z' H',Ex Z H Z' H'->Gd K Z' H H' g d v->Q v H')->r x y H Q
theorem gf{K:Fg}{g ga gb:Gr}{b:D->D->Wg}{r:R2}(hb:cX K g b r){fa fb:Fe}{σ:L2.St}{H:Hp}{Q:VK}(h:T K g (ak b fa fb) σ H Q):HP r (T K ga fa) (T K gb fb) σ H Q:=by
 refine cT λ_ kq=>?_;obtain⟨env,B,Z,d,R,e,k⟩:=h;obtain⟨dx,dy,h1,h2,h3⟩:=Az e;refine kq (⟨env,B,Z,dx,R,h1,λv Z1 H1 x1 g1=>⟨env,B,Z1,dy,R.ext x1,h2,λu Z2 H2 x2 g2=>?_⟩⟩)
 all_goals clear kq
 refine hb x2.zh (g1.later x2) (show Gd K Z2 H2 H2 .pk dy u from g2.pk) h3 λw Z3 H3 x3 g3=>?_;exact k w Z3 H3 ((x1.trans x2).trans x3) (Gd.frm (x1.h.trans x2.h) g3)
theorem sJ(ho:jn X (binaryOp op) r)(hd:cX X.K g b r)(ha:PD X ga l fa)(hb:PD X gb rr fb) :
  PD X g (.BinOp l op rr pos) (ak b fa fb):=PE.imp (K7 ho ha hb) λ_ _ _ h=>gf hd h
theorem sF(ho:jn X (compareOp op) r)(hd:cX X.K g b r)(ha:PD X ga l fa)(hb:PD X gb rr fb)(hm:behindInMarks op rr=false:=by rfl) :
  PD X g (.Compare l [op] [rr] pos) (ak b fa fb):=PE.imp (FE ho ha hb hm) λ_ _ _ h=>gf hd h
def QU:D->Option Bool
 | .bl b=>some b
 | _=>none
def fB(f:Fe):Fb:=λenv=>(f env).bind QU
theorem BW(h:QU d=some b):d=.bl b:=by
 cases d<;>cases h;rfl
theorem Gu{K:Fg}{g:Gr}{f:Fe}{σ:L2.St}{H:Hp}{Q:Bool->Hp->Prop}(h:TB K (fB f) σ H Q):T K g f σ H (λx H'=>∃k,x=.bl k/\Q k H'):=by
 refine cT λ_ kq=>?_;obtain⟨env,B,Z,b,R,e,k⟩:=h;obtain⟨d,h1,h2⟩:=a_.mp e;cases BW h2;exact kq (⟨env,B,Z,_,R,h1,λv Z' H' x g=>⟨b,g.bl,k Z' H' x⟩⟩)
theorem kU(ho:jn X (compareOp op) r)(hd:cX X.K .cl b r)(ha:PD X ga l fa)(hb:PD X gb rr fb)(hm:behindInMarks op rr=false:=by rfl) :
  PB X (.Compare l [op] [rr] pos) (fB (ak b fa fb)):=PT.imp (DI ho ha hb hm) λ_ _ _ h=>gf hd (Gu h)
theorem eO(h:PD X g e f)(he:∀whole,isTrue e X.env whole=(do let v <- whole;standAt e.pos;holding [v] (truthy v)):=by intro _;rfl):PB X e (fB f):=
 PT.imp (IG h he) λ_ _ _ h=>Gu h
def iF(g:Int->Int->D):D->D->Wg
 | .int i,.int j=>some (g i j)
 | _,_=>none
theorem jI{K:Fg}{g:Int->Int->V}{g':Int->Int->D}(hg:∀Z i j,Rep K Z (g' i j) (g i j)):cX K .cl (iF g') (yB g):=λ{Z H x y dx dy d Q} s h1 h2 e k=>by
 cases dx<;>try cases e
 all_goals (cases dy<;>cases e)
 exact⟨_,_,h1.int,h2.int,k _ Z H (Ex.refl s) (hg _ _ _)⟩
def LH(c:Int->Int->Bool)(g:Int->Int->D):D->D->Wg
 | .int i,.int j=>if c i j then some (g i j)else none
 | _,_=>none
theorem pR{K:Fg}{C:Int->Int->Prop}{c:Int->Int->Bool}{g:Int->Int->V}{g':Int->Int->D}(hc:∀i j,c i j=true->C i j)(hg:∀Z i j,Rep K Z (g' i j) (g i j)):cX K .cl (LH c g') (rI C g):=λ{Z H x y dx dy d Q} s h1 h2 e k=>by
 cases dx<;>try cases e
 all_goals (cases dy<;>try cases e)
 rename_i i j;have e':(if c i j=true then some (g' i j)else none)=some d:=e
 by_cases zQ:c i j=true
 .rw[i_ zQ]at e';cases e';exact⟨_,_,h1.int,h2.int,hc _ _ zQ,k _ Z H (Ex.refl s) (hg _ _ _)⟩
 .rw[j_ zQ]at e';cases e'
abbrev addI:=iF λi j=>.int (i+j)
abbrev subI:=iF λi j=>.int (i-j)
abbrev ltI:=iF λi j=>.bl (decide (i<j))
abbrev leI:=iF λi j=>.bl (decide (i<=j))
abbrev gtI:=iF λi j=>.bl (decide (j<i))
def big(i:Int):Bool:=decide (i.natAbs<2 ^ 4096)
abbrev mulI:=LH (λi j=>(big i&&big j)) λi j=>.int (i*j)
abbrev fdivI:=LH (λ_ j=>decide (0<j/\j<1073741824)) λi j=>.int (i/j)
abbrev modI:=LH (λ_ j=>decide (0<j)) λi j=>.int (i%j)
abbrev powI:=LH (λi j=>big i&&decide (0<=j/\j<=1000)) λi j=>.int (i ^ j.toNat)
theorem MA{K:Fg}:cX K .cl addI (yB λi j=>.int (i+j)):=jI (by intro _ _ _;rfl)
theorem Ma{K:Fg}:cX K .cl subI (yB λi j=>.int (i-j)):=jI (by intro _ _ _;rfl)
theorem IT{K:Fg}:cX K .cl ltI (yB λi j=>.bl (decide (i<j))):=jI (by intro _ _ _;rfl)
theorem xY{K:Fg}:cX K .cl leI (yB λi j=>.bl (decide (i<=j))):=jI (by intro _ _ _;rfl)
theorem LP{K:Fg}:cX K .cl gtI (yB λi j=>.bl (decide (j<i))):=jI (by intro _ _ _;rfl)
theorem G3{K:Fg}:cX K .cl fdivI (rI Ms λi j=>.int (i/j)):=pR (λi j h=>H_ h) (by intro _ _ _;rfl)
theorem K9{K:Fg}:cX K .cl modI (rI (λ_ j=>0<j) λi j=>.int (i%j)):=pR (λi j h=>H_ h) (by intro _ _ _;rfl)
theorem l4(h:big i=true):Builtin.Int.intBits i<=4096:=by
 have h':i.natAbs<2 ^ 4096:=H_ h;unfold Builtin.Int.intBits
 split
 .lia
 .rename_i hz;have hn:i.natAbs≠0:=by simpa using hz
  have:=(Nat.log2_lt hn).mpr h'
  lia
def GI(i j:Int):Prop:=big i=true/\big j=true
theorem Et:jn X (binaryOp .Mult) (rI GI λi j=>.int (i*j)):=Nw λ_ _ _ _ _ _ _ hc q=>mul_int q (.of_bits (M_ (l4 hc.1) (by decide)) (M_ (l4 hc.2) (by decide)))
theorem Mc{K:Fg}:cX K .cl mulI (rI GI λi j=>.int (i*j)):=pR (λi j h=>by
 simp only[C_]at h;exact h) (by intro _ _ _;rfl)
def F0(i j:Int):Prop:=big i=true/\0<=j/\j<=1000
theorem DS:jn X (binaryOp .Pow) (rI F0 λi j=>.int (i ^ j.toNat)):=Nw λi j _ _ _ _ _ hc q=>pow_int hc.2.1 (by
 have h1:(Builtin.Int.intBits i:Int)<=4096:=by have:=l4 hc.1;lia
 have h2:(Builtin.Int.intBits i:Int)*j<=4096*1000:=Int.mul_le_mul h1 hc.2.2 hc.2.1 (by decide);exact Int.le_trans h2 (by decide)) q
theorem L0{K:Fg}:cX K .cl powI (rI F0 λi j=>.int (i ^ j.toNat)):=pR (λi j h=>by
 simp only[C_,Sk]at h;exact⟨h.1,h.2.1,h.2.2⟩) (by intro _ _ _;rfl)
variable {l r c:V9}{fa fb fc:Fe}{ga gb gc:Gr}{pos:Pos}
theorem bg(ha:PD X ga l fa)(hb:PD X gb r fb):PD X .cl (.BinOp l .Add r pos) (ak addI fa fb):=sJ Jn MA ha hb
theorem cC(ha:PD X ga l fa)(hb:PD X gb r fb):PD X .cl (.BinOp l .Sub r pos) (ak subI fa fb):=sJ I0 Ma ha hb
theorem md(ha:PD X ga l fa)(hb:PD X gb r fb):PD X .cl (.BinOp l .Mult r pos) (ak mulI fa fb):=sJ Et Mc ha hb
theorem Ax(ha:PD X ga l fa)(hb:PD X gb r fb):PD X .cl (.BinOp l .FloorDiv r pos) (ak fdivI fa fb):=sJ E8 G3 ha hb
theorem gu(ha:PD X ga l fa)(hb:PD X gb r fb):PD X .cl (.BinOp l .Mod r pos) (ak modI fa fb):=sJ HB K9 ha hb
theorem xv(ha:PD X ga l fa)(hb:PD X gb r fb):PD X .cl (.BinOp l .Pow r pos) (ak powI fa fb):=sJ DS L0 ha hb
theorem Hr(ha:PD X ga l fa)(hb:PD X gb r fb):PD X .cl (.Compare l [.LtE] [r] pos) (ak leI fa fb):=sF pN xY ha hb (fV _)
theorem zC(ha:PD X ga l fa)(hb:PD X gb r fb):PD X .cl (.Compare l [.Gt] [r] pos) (ak gtI fa fb):=sF Gf LP ha hb (fV _)
theorem I9(ha:PD X ga l fa)(hb:PD X gb r fb):PB X (.Compare l [.Lt] [r] pos) (fB (ak ltI fa fb)):=kU Ap IT ha hb (fV _)
theorem Mt(ha:PD X ga l fa)(hb:PD X gb r fb):PB X (.Compare l [.LtE] [r] pos) (fB (ak leI fa fb)):=kU pN xY ha hb (fV _)
theorem Oz(ha:PD X ga l fa)(hb:PD X gb r fb):PB X (.Compare l [.Gt] [r] pos) (fB (ak gtI fa fb)):=kU Gf LP ha hb (fV _)
def bt(g:D->Wg)(f:Fe):Fe:=λenv=>(f env).bind g
def tS:D->Wg
 | .int i=>some (.int (-i))
 | _=>none
theorem Gh(ha:PD X ga l fa):PD X .cl (.UnaryOp .USub l pos) (bt tS fa):=PE.imp (KG Hd ha) λσ H Q az=>by
 refine cT λ_ kq=>?_;obtain⟨env,B,Z,d,R,e,k⟩:=az;obtain⟨x,h1,h2⟩:=a_.mp e;refine kq (⟨env,B,Z,x,R,h1,λv Z1 H1 x1 g1=>?_⟩)
 all_goals clear kq
 cases x<;>cases h2;exact⟨_,g1.int,k _ Z1 H1 x1 rfl⟩
def ky(f g:Fe):Fe:=λenv=>(f env).bind λx=>match x with | .bl true=>g env | .bl false=>some (.bl false) | _=>none
def KB:D->Wg
 | .bl b=>some (.bl !b)
 | _=>none
variable {rest:VU}{fr:Fe}{gr:Gr}
theorem o4{op}(ha:PD X ga l fa):PD X ga (.BoolOp op [l] pos) fa:=IX ha
theorem kZ(ha:PD X ga l fa)(hb:PD X .cl (.BoolOp .And (r::rest) pos) fr):PD X .cl (.BoolOp .And (l::r::rest) pos) (ky fa fr):=PE.imp (G4 ha hb) λσ H Q az=>by
 refine cT λ_ kq=>?_;obtain⟨env,B,Z,d,R,e,k⟩:=az;obtain⟨x,h1,h2⟩:=a_.mp e;refine kq (⟨env,B,Z,x,R,h1,λv Z1 H1 x1 g1=>?_⟩)
 all_goals clear kq
 cases x with
 | bl b=>
  refine⟨b,g1.bl,?_⟩;cases b with
  | true=>exact zE ⟨env,B,Z1,d,R.ext x1,h2,λu Z2 H2 x2 g2=>k u Z2 H2 (x1.trans x2) g2⟩
  | false=>cases h2;exact yo (k _ Z1 H1 x1 rfl)
 | _=>cases h2
theorem KL(ha:PD X ga l fa):PD X .cl (.UnaryOp .Not l pos) (bt KB fa):=PE.imp (Ja ha) λσ H Q az=>by
 refine cT λ_ kq=>?_;obtain⟨env,B,Z,d,R,e,k⟩:=az;obtain⟨x,h1,h2⟩:=a_.mp e;refine kq (⟨env,B,Z,x,R,h1,λv Z1 H1 x1 g1=>?_⟩)
 all_goals clear kq
 cases x<;>cases h2;exact⟨_,g1.bl,k _ Z1 H1 x1 rfl⟩
def i9(f g:Fb):Fb:=λenv=>(f env).bind λx=>if x=true then g env else some false
def Dm(f g:Fb):Fb:=λenv=>(f env).bind λx=>if x=true then some true else g env
def je(f:Fb):Fb:=λenv=>(f env).bind λx=>some !x
variable {ta tb:Fb}
theorem vZ(ha:PB X l ta):Ik X (.BoolOp .And [l] pos) ta:=ED ha
theorem Gw(ha:PB X l ta):Ik X (.BoolOp .Or [l] pos) ta:=Ic ha
theorem w_and(ha:PB X l ta)(hb:Ik X (.BoolOp .And (r::rest) pos) tb):Ik X (.BoolOp .And (l::r::rest) pos) (i9 ta tb):=PW.imp (HZ ha hb) λσ H Q az=>by
 refine cT λ_ kq=>?_;obtain⟨env,B,Z,d,R,e,k⟩:=az;obtain⟨x,h1,h2⟩:=a_.mp e;refine kq (⟨env,B,Z,x,R,h1,λZ1 H1 x1=>?_⟩)
 all_goals clear kq
 cases x with
 | true=>rw[i_ rfl]at h2;exact zE ⟨env,B,Z1,d,R.ext x1,h2,λZ2 H2 x2=>k Z2 H2 (x1.trans x2)⟩
 | false=>rw[j_ (by simp)]at h2;cases h2;exact yo (k Z1 H1 x1)
theorem w_or(ha:PB X l ta)(hb:Ik X (.BoolOp .Or (r::rest) pos) tb):Ik X (.BoolOp .Or (l::r::rest) pos) (Dm ta tb):=PW.imp (K8 ha hb) λσ H Q az=>by
 refine cT λ_ kq=>?_;obtain⟨env,B,Z,d,R,e,k⟩:=az;obtain⟨x,h1,h2⟩:=a_.mp e;refine kq (⟨env,B,Z,x,R,h1,λZ1 H1 x1=>?_⟩)
 all_goals clear kq
 cases x with
 | false=>rw[j_ (by simp)]at h2;exact yo ⟨env,B,Z1,d,R.ext x1,h2,λZ2 H2 x2=>k Z2 H2 (x1.trans x2)⟩
 | true=>rw[i_ rfl]at h2;cases h2;exact zE (k Z1 H1 x1)
theorem LO(h:Ik X l ta):PB X l ta:=PW.pt h
theorem iQ(ha:PB X l ta):PB X (.UnaryOp .Not l pos) (je ta):=PT.imp (II ha) λσ H Q az=>by
 refine cT λ_ kq=>?_;obtain⟨env,B,Z,d,R,e,k⟩:=az;obtain⟨x,h1,h2⟩:=a_.mp e;cases h2;exact kq (⟨env,B,Z,x,R,h1,λZ1 H1 x1=>k Z1 H1 x1⟩)
def iteFn(t:Fb)(f g:Fe):Fe:=λenv=>(t env).bind λb=>if b=true then f env else g env
theorem jG(ht:PB X t ta)(ha:PD X g l fa)(hb:PD X g r fb):PD X g (.IfExp t l r pos) (iteFn ta fa fb):=PE.imp (Bh ht ha hb) λσ H Q az=>by
 refine cT λ_ kq=>?_;obtain⟨env,B,Z,d,R,e,k⟩:=az;obtain⟨x,h1,h2⟩:=a_.mp e;refine kq (⟨env,B,Z,x,R,h1,λZ1 H1 x1=>?_⟩)
 all_goals clear kq
 cases x with
 | true=>rw[i_ rfl]at h2;exact zE ⟨env,B,Z1,d,R.ext x1,h2,λv Z2 H2 x2 g2=>k v Z2 H2 (x1.trans x2) (g2.frm x1.h)⟩
 | false=>rw[j_ (by simp)]at h2;exact yo ⟨env,B,Z1,d,R.ext x1,h2,λv Z2 H2 x2 g2=>k v Z2 H2 (x1.trans x2) (g2.frm x1.h)⟩
def Hx(b b':D->D->Wg)(fa fb fc:Fe):Fe:=λenv=>(fa env).bind λx=>(fb env).bind λy=>(b x y).bind λz=>match z with
 | .bl true=>(fc env).bind λw=>b' y w
 | .bl false=>some (.bl false)
 | _=>none
theorem EV{K:Fg}{b b':D->D->Wg}{r r':R2}(hb:cX K .cl b r)(jl:cX K .cl b' r'){σ:L2.St}{H:Hp}{Q:VK}(h:T K .cl (Hx b b' fa fb fc) σ H Q):Bc r r' (T K ga fa) (T K gb fb) (T K gc fc) σ H Q:=by
 refine cT λ_ kq=>?_;obtain⟨env,B,Z,d,R,e,k⟩:=h;obtain⟨dx,h1,e⟩:=a_.mp e;obtain⟨dy,h2,e⟩:=a_.mp e;obtain⟨dz,h3,e⟩:=a_.mp e;refine kq (⟨env,B,Z,dx,R,h1,λv Z1 H1 x1 g1=>⟨env,B,Z1,dy,R.ext x1,h2,λu Z2 H2 x2 g2=>?_⟩⟩)
 all_goals clear kq
 refine hb x2.zh (g1.later x2) (show Gd K Z2 H2 H2 .pk dy u from g2.pk) h3 λz Z3 H3 x3 g3=>?_;cases dz with
 | bl t=>
  refine⟨t,g3.bl,?_⟩;cases t with
  | false=>cases e;exact yo (k _ Z3 H3 ((x1.trans x2).trans x3) rfl)
  | true=>
   obtain⟨dw,h4,h5⟩:=a_.mp e;refine zE ⟨env,B,Z3,dw,((R.ext x1).ext x2).ext x3,h4,λw Z4 H4 x4 g4=>?_⟩;refine jl x4.zh (show Gd K Z4 H4 H4 .pk dy u from Gd.later x4 (Gd.later (H3:=H3) x3 g2)) (show Gd K Z4 H4 H4 .pk dw w from g4.pk) h5 λq Z5 H5 x5 g5=>?_;exact k q Z5 H5 (((x1.trans x2).trans x3).trans (x4.trans x5)) g5
 | _=>cases e
theorem qu(ho:jn X (compareOp op) r1)(CQ:jn X (compareOp op') r2)(hd:cX X.K .cl b r1)(MI:cX X.K .cl b' r2)(ha:PD X ga l fa)(hb:PD X gb r fb)(hc:PD X gc c fc)
  (hm:lastMarks [op,op'] [r,c]=false:=by with_unfolding_all rfl):PD X .cl (.Compare l [op,op'] [r,c] pos) (Hx b b' fa fb fc):=PE.imp (Bk ho CQ ha hb hc hm) λ_ _ _ h=>EV hd MI h
end
section
variable {X:Cx}{l r c:V9}{fa fb fc:Fe}{ga gb gc:Gr}{pos p:Pos}
def aV:D->D->Wg
 | .lst ds,.int i=>atI ds i
 | .tup ds,.int i=>atI ds i
 | _,_=>none
theorem ai.atI{K:Fg}{H:Hp}{ds:Wf}{vs:Wh}{i:Int}{d:D}(h:ai K H ds vs)(e:L2.atI ds i=some d):∃v,L2.atI vs i=some v/\Rep K H d v:=by
 unfold L2.atI at e ⊢;rw[<- h.len];refine cT λ_ kq=>?_;obtain⟨j,h1,h2⟩:=a_.mp e;obtain⟨v,h3,h4⟩:=h.get h2;exact kq (⟨v,by rw[h1];exact h3,h4⟩)
theorem GH{K:Fg}:cX K .cl aV (λx y H Q=>Lu K x y H Q\/L5 K x y H Q):=λ{Z H x y dx dy d Q} s h1 h2 e k=>by
 cases dx<;>try cases e
 all_goals (cases dy<;>try cases e)
 .rename_i ds i;refine cT λ_ kq=>?_;obtain⟨a,vs,rfl,hq,rr⟩:=h1.tup s;obtain⟨v,e1,e2⟩:=rr.atI e;exact kq (.inr ⟨a,vs,i,v,rfl,h2.int,hq,e1,k v Z H (Ex.refl s) e2⟩)
 .rename_i ds i;refine cT λ_ kq=>?_;obtain⟨a,vs,rfl,hq,rr⟩:=h1.lst s;obtain⟨v,e1,e2⟩:=rr.atI e;exact kq (.inl ⟨a,vs,i,v,rfl,h2.int,hq,e1,k v Z H (Ex.refl s) e2⟩)
theorem a6(ha:PD X ga l fa)(hb:PD X gb r fb)(hs:qW r:=by intro _ _;rfl):PD X .cl (.Subscript l r pos) (ak aV fa fb):=PE.imp (Gv (wL.or BF) ha hb hs) λ_ _ _ h=>gf GH h
abbrev Fo:=En->Option (Option Int)
def R7(K:Fg)(f:Fo):TO:=λσ H Q=>∃env B Z o,Rl K B Z H env σ/\f env=some o/\∀Z' H',Ex Z H Z' H'->Q o H'
def NN(X:Cx)(e:Option V9)(f:Fo):Prop:=PO X e (R7 X.K f)
theorem PO.imp(h:PO X e t)(i:∀σ H Q,t' σ H Q->t σ H Q):PO X e t':=λpins s σ H Q I q=>h pins s σ H Q I (i σ H Q q)
def oNone:Fo:=λ_=>some none
def dB(f:Fe):Fo:=λenv=>(f env).bind λd=>match d with | .int i=>some (some i) | _=>none
theorem mH:NN X none oNone:=PO.imp FF λσ H Q ⟨env,B,Z,o,R,e,k⟩=>by cases e;exact k Z H (Ex.refl R.zh)
theorem mz(h:PD X ga l fa):NN X (some l) (dB fa):=PO.imp (EC h) λσ H Q az=>by
 refine cT λ_ kq=>?_;obtain⟨env,B,Z,o,R,e,k⟩:=az;obtain⟨d,h1,h2⟩:=a_.mp e;refine kq (⟨env,B,Z,d,R,h1,λv Z' H' x g=>?_⟩)
 all_goals clear kq
 cases d<;>cases h2;exact⟨_,g.int,k Z' H' x⟩
def cutD(ds:Wf)(lo hi:Option Int):Wf:=(ds.drop (HT.pH ds.length 0 lo)).take (HT.pH ds.length ds.length hi-HT.pH ds.length 0 lo)
theorem ai.cut{K:Fg}{H:Hp}{ds:Wf}{vs:Wh}(h:ai K H ds vs)(lo hi:Option Int):ai K H (cutD ds lo hi) (zr vs lo hi):=by
 unfold cutD zr;rw[<- h.len];exact(h.drop _).take _
def rV(b:D->Option Int->Option Int->Wg)(f:Fe)(lo hi:Fo):Fe:=λenv=>(f env).bind λx=>(lo env).bind λi=>(hi env).bind λj=>b x i j
def cG:D->Option Int->Option Int->Wg
 | .lst ds,lo,hi=>some (.lst (cutD ds lo hi))
 | _,_,_=>none
variable {lo hi:Option V9}{fl fh:Fo}{p2:Pos}
theorem sD(ha:PD X ga l fa)(hl:NN X lo fl)(hh:NN X hi fh):PD X .nw (.Subscript l (.Slice lo hi none p2) pos) (rV cG fa fl fh):=PE.imp (BO Fn ha hl hh) λσ H Q az=>by
 refine cT λ_ kq=>?_;obtain⟨env,B,Z,d,R,e,k⟩:=az;obtain⟨x,h1,e⟩:=a_.mp e;obtain⟨i,h2,e⟩:=a_.mp e;obtain⟨j,h3,e⟩:=a_.mp e;cases x<;>cases e;rename_i ds;refine kq (⟨env,B,Z,_,R,h1,λv Z1 H1 x1 g1=>⟨env,B,Z1,i,R.ext x1,h2,λZ2 H2 x2=>⟨env,B,Z2,j,(R.ext x1).ext x2,h3,λZ3 H3 x3=>?_⟩⟩⟩)
 all_goals clear kq
 obtain⟨a,vs,rfl,hq,rr⟩:=Gd.lst x3.zh (Gd.later (H3:=H3) x3 (Gd.later (H3:=H3) x2 g1));refine⟨a,vs,rfl,hq,λq hp=>?_⟩;have x0:=(x1.trans x2).trans x3;exact k _ Z3 _ (x0.trans (Ex.newL x3.zh hp)) ⟨q,_,_,rfl,rfl,x0.h.free hp,av,x3.zh.free hp,rr.cut i j⟩
def j8:D->D->Wg
 | .lst xs,.lst ys=>if xs.length+ys.length<=16000000 then some (.lst (xs++ys))else none
 | _,_=>none
theorem Jl(h:n<=16000000):n<=sizeLine:=by rw[Sr];lia
theorem HJ{K:Fg}:cX K .nw j8 (λx y H Q=>∃l b xs zs,x=.ref l/\y=.ref b/\cW K H l xs/\cW K H b zs/\xs.length+zs.length<=sizeLine/\∀p,H p=none->Q (.ref p) (upd H p (.lst (xs++zs)))):=λ{Z H x y dx dy d Q} s h1 h2 e k=>by
 cases dx<;>try cases e
 all_goals (cases dy<;>try cases e)
 rename_i xs ys;obtain⟨hl,rfl⟩:=rh e
 .obtain⟨a,vs,rfl,q1,r1⟩:=h1.lst s;obtain⟨b,us,rfl,q2,r2⟩:=h2.lst s;refine⟨a,b,vs,us,rfl,rfl,q1,q2,by rw[<- r1.len,<- r2.len];exact Jl hl,λp hp=>?_⟩;exact k _ Z _ (Ex.newL s hp) ⟨p,_,_,rfl,rfl,hp,av,s.free hp,r1.app r2⟩
def gB(K:Fg)(g:Gr)(b:D->Wg)(r:Wh->Hp->VK->Prop):Prop:=
 ∀{Z H:Hp}{x:V}{dx d:D}{Q:VK},aD Z H->Gd K Z H H .pk dx x->b dx=some d->(∀v Z' H',Ex Z H Z' H'->Gd K Z' H H' g d v->Q v H')->r [x] H Q
theorem ma{K:Fg}{g:Gr}{b:D->Wg}{rr:Wh->Hp->VK->Prop}(hb:gB K g b rr){σ:L2.St}{H:Hp}{Q:VK}(h:T K g (bt b fa) σ H Q):NP rr (xG (T K ga fa) tNil) σ H Q:=by
 refine cT λ_ kq=>?_;obtain⟨env,B,Z,d,R,e,k⟩:=h;obtain⟨x,h1,h2⟩:=a_.mp e;refine kq (⟨env,B,Z,x,R,h1,λv Z1 H1 x1 g1=>?_⟩)
 all_goals clear kq
 exact hb x1.zh (show Gd K Z1 H1 H1 .pk x v from g1.pk) h2 λw Z2 H2 x2 g2=>k w Z2 H2 (x1.trans x2) (g2.frm x1.h)
variable {x:Str}{id TT:String}{g:Gr}{b:D->Wg}{rr:Wh->Hp->VK->Prop}
theorem oY(hc:dv X (.builtin id) rr)(hd:gB X.K g b rr)(hv:bootBuiltins x=some (.builtin id))(hm:X.mg x=none)(ha:PD X ga l fa)(hn:x≠"__name__":=by decide)(nC:(x==("__debug__":Str))=false:=by decide)(hg:Gl X x:=by rfl)
  (he:starEach [l] X.env=[(false,eval l X.env)]:=by rfl):PD X g (.Call (.Name x p) [l] [] pos) (bt b fa):=PE.imp (jL hc hg hm hv (aY ha cj he) hn nC he rfl) λ_ _ _ h=>ma hd h
theorem AY(hc:dv X (.type TT) rr)(hd:gB X.K g b rr)(hv:bootBuiltins x=some (.type TT))(hm:X.mg x=none)(ha:PD X ga l fa)(hn:x≠"__name__":=by decide)(nC:(x==("__debug__":Str))=false:=by decide)(hg:Gl X x:=by rfl)
  (he:starEach [l] X.env=[(false,eval l X.env)]:=by rfl):PD X g (.Call (.Name x p) [l] [] pos) (bt b fa):=PE.imp (yx hc hg hm hv (aY ha cj he) hn nC he rfl) λ_ _ _ h=>ma hd h
def bX:D->Wg
 | .lst ds=>some (.int ds.length)
 | .tup ds=>some (.int ds.length)
 | _=>none
theorem Ll{K:Fg}:gB K .cl bX (λxs H Q=>∃p ys,xs=[.ref p]/\(cW K H p ys\/c7 K H p ys)/\Q (.int ys.length) H):=λ{Z H x dx d Q} s h e k=>by
 cases dx<;>cases e
 .obtain⟨a,vs,rfl,q,r⟩:=h.tup s;exact⟨a,vs,rfl,.inr q,k _ Z H (Ex.refl s) (by rw[r.len];rfl)⟩
 .obtain⟨a,vs,rfl,q,r⟩:=h.lst s;exact⟨a,vs,rfl,.inl q,k _ Z H (Ex.refl s) (by rw[r.len];rfl)⟩
theorem iS(hm:X.mg "len"=none)(ha:PD X ga l fa)(hg:Gl X "len":=by rfl)(he:starEach [l] X.env=[(false,eval l X.env)]:=by rfl):PD X .cl (.Call (.Name "len" p) [l] [] pos) (bt bX fa):=
 oY qr Ll PySem.boot_len hm ha (by decide) (by decide) hg he
def iX:D->Wg
 | .lst ds=>some (.lst ds)
 | .tup ds=>some (.lst ds)
 | _=>none
theorem IY{K:Fg}:gB K .nw iX (λxs H Q=>∃p ys,xs=[.ref p]/\(cW K H p ys\/c7 K H p ys)/\∀l,H l=none->Q (.ref l) (upd H l (.lst ys))):=λ{Z H x dx d Q} s h e k=>by
 cases dx<;>cases e
 .obtain⟨a,vs,rfl,q,r⟩:=h.tup s;exact⟨a,vs,rfl,.inr q,λp hp=>k _ Z _ (Ex.newL s hp) ⟨p,_,_,rfl,rfl,hp,av,s.free hp,r⟩⟩
 .obtain⟨a,vs,rfl,q,r⟩:=h.lst s;exact⟨a,vs,rfl,.inl q,λp hp=>k _ Z _ (Ex.newL s hp) ⟨p,_,_,rfl,rfl,hp,av,s.free hp,r⟩⟩
theorem BG(hm:X.mg "list"=none)(ha:PD X ga l fa)(hg:Gl X "list":=by rfl)(he:starEach [l] X.env=[(false,eval l X.env)]:=by rfl):PD X .nw (.Call (.Name "list" p) [l] [] pos) (bt iX fa):=
 AY qK IY PyProof.Rows.boot_list hm ha (by decide) (by decide) hg he
def intD:D->Wg
 | .int i=>some (.int i)
 | .bl b=>some (.int (if b then 1 else 0))
 | _=>none
theorem Mx{K:Fg}:gB K .cl intD (λxs H Q=>(∃i,xs=[.int i]/\Q (.int i) H)\/∃k,xs=[.bl k]/\Q (.int (if k then 1 else 0)) H):=λ{Z H x dx d Q} s h e k=>by
 cases dx<;>cases e
 .cases h.bl;exact .inr ⟨_,rfl,k _ Z H (Ex.refl s) rfl⟩
 .cases h.int;exact .inl ⟨_,rfl,k _ Z H (Ex.refl s) rfl⟩
theorem IP(hm:X.mg "int"=none)(ha:PD X ga l fa)(hg:Gl X "int":=by rfl)(he:starEach [l] X.env=[(false,eval l X.env)]:=by rfl):PD X .cl (.Call (.Name "int" p) [l] [] pos) (bt intD fa):=
 AY zq Mx PyProof.Rows.boot_int hm ha (by decide) (by decide) hg he
def xg(K:Fg)(g:Gr)(b:D->D->Wg)(r:Wh->Hp->VK->Prop):Prop:=cX K g b (λx y H Q=>r [x,y] H Q)
theorem vc{K:Fg}{g:Gr}{b:D->D->Wg}{rr:Wh->Hp->VK->Prop}(hb:xg K g b rr){σ:L2.St}{H:Hp}{Q:VK}(h:T K g (ak b fa fb) σ H Q):NP rr (xG (T K ga fa) (xG (T K gb fb) tNil)) σ H Q:=gf hb h
variable {b2:D->D->Wg}
theorem Gb(hc:dv X (.builtin id) rr)(hd:xg X.K g b2 rr)(hv:bootBuiltins x=some (.builtin id))(hm:X.mg x=none)(ha:PD X ga l fa)(hb:PD X gb r fb)(hn:x≠"__name__":=by decide)(nC:(x==("__debug__":Str))=false:=by decide)(hg:Gl X x:=by rfl)
  (he:starEach [l,r] X.env=(false,eval l X.env)::starEach [r] X.env:=by rfl) (uF:starEach [r] X.env=[(false,eval r X.env)]:=by rfl) (fL:(backTo pos (starEach [r] X.env)).any (·.1)=false:=by rfl):PD X g (.Call (.Name x p) [l,r] [] pos) (ak b2 fa fb):=
 PE.imp (jL hc hg hm hv (aY ha (aY hb cj uF) he) hn nC he fL) λ_ _ _ h=>vc hd h
abbrev maxI:=iF λi j=>.int (if j>i then j else i)
abbrev minI:=iF λi j=>.int (if j<i then j else i)
theorem K'{K:Fg}:xg K .cl maxI (λxs H Q=>∃i j,xs=[.int i,.int j]/\Q (.int (if j>i then j else i)) H):=λ{Z H x y dx dy d Q} s h1 h2 e k=>by
 cases dx<;>try cases e
 all_goals (cases dy<;>cases e)
 cases h1.int;cases h2.int;exact⟨_,_,rfl,k _ Z H (Ex.refl s) rfl⟩
theorem LS{K:Fg}:xg K .cl minI (λxs H Q=>∃i j,xs=[.int i,.int j]/\Q (.int (if j<i then j else i)) H):=λ{Z H x y dx dy d Q} s h1 h2 e k=>by
 cases dx<;>try cases e
 all_goals (cases dy<;>cases e)
 cases h1.int;cases h2.int;exact⟨_,_,rfl,k _ Z H (Ex.refl s) rfl⟩
theorem Lj(hm:X.mg "max"=none)(bq:X.calm=true)(ha:PD X ga l fa)(hb:PD X gb r fb)(hg:Gl X "max":=by rfl)(he:starEach [l,r] X.env=(false,eval l X.env)::starEach [r] X.env:=by rfl)(uF:starEach [r] X.env=[(false,eval r X.env)]:=by rfl)(fL:(backTo pos (starEach [r] X.env)).any (·.1)=false:=by rfl) :
  PD X .cl (.Call (.Name "max" p) [l,r] [] pos) (ak maxI fa fb):=Gb (yA bq) K' UO hm ha hb (by decide) (by decide) hg he uF fL
theorem LF(hm:X.mg "min"=none)(bq:X.calm=true)(ha:PD X ga l fa)(hb:PD X gb r fb)(hg:Gl X "min":=by rfl)(he:starEach [l,r] X.env=(false,eval l X.env)::starEach [r] X.env:=by rfl)(uF:starEach [r] X.env=[(false,eval r X.env)]:=by rfl)(fL:(backTo pos (starEach [r] X.env)).any (·.1)=false:=by rfl) :
  PD X .cl (.Call (.Name "min" p) [l,r] [] pos) (ak minI fa fb):=Gb (zB bq) LS PyProof.Rows.boot_min hm ha hb (by decide) (by decide) hg he uF fL
def Do(K:Fg)(n:Nat)(g:Gr)(m:Wf->Wg):Sp:=λvs H Q _=>∃Z ds d,ds.length=n/\aD Z H/\ai K Z ds vs/\m ds=some d/\∀v Z' H',Ex Z H Z' H'->Gd K Z' H H' g d v->Q v H'
structure MT(P:Program)(w:World)(K:Fg)(mg:Str->Option Value)(base:Heap)(k:Nat)(x:Str)(n:Nat)(g:Gr)(m:List D->Option D):Prop where
 ex:∃f fd ps,ps.length=n/\dM P w K mg base jk k f fd ps (Do K n g m)/\mg x=some (.ref f)/\PySem.W.keepIn K (.ref f)=true/\Binds K fd ps []
variable {m:Wf->Wg}{k n:Nat}{es:VU}{fs:Fes}
theorem Bp(C:MT X.prog X.w X.K X.mg X.base k x n g m)(hr:bo k X.A)(hl:PL X (l::es) fs)(hn:(l::es).length=n:=by rfl)(hg:Gl X x:=by rfl)(nC:(x==("__debug__":Str))=false:=by decide)
  (he:starEach (l::es) X.env=(false,eval l X.env)::starEach es X.env:=by rfl) (fL:(backTo pos (starEach es X.env)).any (·.1)=false:=by rfl):PD X g (.Call (.Name x p) (l::es) [] pos) (λenv=>(fs env).bind m):=by
 obtain⟨f,fd,ps,hps,F,hm,hk,hb⟩:=C.ex;refine PE.imp (xf F hr hg hm hk hb .nil wF hl.p nC he fL) λσ H Q az=>?_;refine cT λ_ kq=>?_;obtain⟨env,B,Z,d,R,e,kk⟩:=az;obtain⟨ds,h1,h2⟩:=a_.mp e;refine kq (⟨env,B,Z,ds,R,h1,λvs Z1 H1 x1 r=>?_⟩)
 all_goals clear kq
 show Do X.K n g m (vs++[]) H1 Q E0;rw[G_];exact⟨Z1,ds,d,by rw[hl.l env ds h1];exact hn,x1.zh,r,h2,λv Z' H' x2 g2=>kk v Z' H' (x1.trans x2) (g2.frm x1.h)⟩
end
inductive Out where
 | nx (env:En) | rt (d:D) | bk (env:En) | ct (env:En)
abbrev Fs:=En->Option Out
def wG(K:Fg)(rg:Gr)(B Z:Hp)(E:Ends):Out->Prop
 | .nx env'=>∀σ' Z' H',Ex Z B Z' H'->Rl K B Z' H' env' σ'->E.nx σ' H'
 | .bk env'=>∀σ' Z' H',Ex Z B Z' H'->Rl K B Z' H' env' σ'->E.bk σ' H'
 | .ct env'=>∀σ' Z' H',Ex Z B Z' H'->Rl K B Z' H' env' σ'->E.ct σ' H'
 | .rt d=>∀v Z' H',Ex Z B Z' H'->Gd K Z' B H' rg d v->E.rt v H'
def Ki(K:Fg)(rg:Gr)(f:Fs):TS:=λE σ H=>∃env B Z o,Rl K B Z H env σ/\f env=some o/\wG K rg B Z E o
def SD(X:Cx)(rg:Gr)(st:V_)(f:Fs):Prop:=PS X st (Ki X.K rg f)
def tm(X:Cx)(rg:Gr)(st:VV)(f:Fs):Prop:=iG X st (Ki X.K rg f)
section
variable {X:Cx}{rg:Gr}{st:V_}{lA:VV}{f g:Fs}{pos:Pos}
theorem PS.imp(h:PS X st t)(i:∀E σ H,t' E σ H->t E σ H):PS X st t':=λpins s σ H E I q=>h pins s σ H E I (i E σ H q)
theorem iG.imp(h:iG X lA t)(i:∀E σ H,t' E σ H->t E σ H):iG X lA t':=λpins s σ H E I q=>h pins s σ H E I (i E σ H q)
theorem wG.later{K:Fg}{B Z Z1 H1:Hp}{E:Ends}{o:Out}(x:Ex Z B Z1 H1)(h:wG K rg B Z E o):wG K rg B Z1 E o:=by
 cases o with
 | nx e=>exact λσ' Z' H' y=>h σ' Z' H' (x.transB y)
 | bk e=>exact λσ' Z' H' y=>h σ' Z' H' (x.transB y)
 | ct e=>exact λσ' Z' H' y=>h σ' Z' H' (x.transB y)
 | rt e=>exact λv Z' H' y=>h v Z' H' (x.transB y)
def nxF:Fs:=λenv=>some (.nx env)
def aI(f g:Fs):Fs:=λenv=>(f env).bind λo=>match o with | .nx e=>g e | o=>some o
theorem cy:tm X rg [] nxF:=iG.imp w8 λE σ H ⟨env,B,Z,o,R,e,k⟩=>by cases e;exact k σ Z H ⟨R.bh,aD.refl _,R.zh,λ_ _ h=>h,λ_ _ _ h=>h⟩ R
theorem ao(h1:SD X rg st f)(h2:tm X rg lA g):tm X rg (st::lA) (aI f g):=iG.imp (er h1 h2) λE σ H az=>by
 refine cT λ_ kq=>?_;obtain⟨env,B,Z,o,R,e,k⟩:=az;obtain⟨o1,e1,e2⟩:=a_.mp e;refine kq (⟨env,B,Z,o1,R,e1,?_⟩)
 all_goals clear kq
 cases o1 with
 | nx JB=>exact λσ' Z' H' x R'=>⟨JB,B,Z',o,R',e2,k.later x⟩
 | rt d=>cases e2;exact k
 | bk d=>cases e2;exact k
 | ct d=>cases e2;exact k
theorem aA(h1:SD X rg st f):tm X rg [st] f:=pX h1
def Iw(i:Nat):Fs:=λenv=>match env[i]? with
 | some (.O w)=>some (.nx (env.set i (.F w.d)))
 | some (.F d)=>some (.nx env)
 | _=>none
theorem LA(i:Nat)(h:tm X rg lA g):tm X rg lA (aI (Iw i) g):=iG.imp h λE σ H az=>by
 obtain⟨env,B,Z,o,R,e,k⟩:=az;obtain⟨o1,e1,e2⟩:=a_.mp e;unfold Iw at e1
 split at e1
 .rename_i ds hi;cases e1;obtain⟨Z',R',x⟩:=R.frz hi;exact⟨_,B,Z',o,R',e2,k.later x⟩
 .cases e1;exact⟨env,B,Z,o,R,e2,k⟩
 .cases e1
def bj(f:Fe):Fs:=λenv=>(f env).bind λd=>some (.rt d)
theorem aS{e:V9}{f:Fe}(h:PD X rg e f):SD X rg (.Return (some e) pos) (bj f):=PS.imp (mo h) λE σ H az=>by
 refine cT λ_ kq=>?_;obtain⟨env,B,Z,o,R,e,k⟩:=az;obtain⟨d,e1,e2⟩:=a_.mp e;cases e2;exact kq (⟨env,B,Z,d,R,e1,λv Z' H' x g=>k v Z' H' (x.part R.bh) (g.frm R.bh)⟩)
def tI(i:Nat):Fs:=λenv=>match env[i]? with
 | some (.O (.L ds))=>some (.rt (.lst ds))
 | _=>none
theorem kg(i:Nat)(hN:X.N[i]?=some x:=by rfl)(hv:qP X.env.scope x:=by first | exact Or.inl rfl | exact Or.inr (Or.inl rfl) | exact Or.inr (Or.inr rfl))(hd:(x==("__debug__":Str))=false:=by decide)
  (eM:(x==("__classdict__":Str))=false:=by decide):SD X .nw (.Return (some (.Name x p)) pos) (tI i):=PS.imp (mo (cF hN hv hd eM)) λE σ H az=>by
 obtain⟨env,B,Z,o,R,e,k⟩:=az;unfold tI at e
 split at e
 .rename_i ds hi;cases e;obtain⟨y,e1,a,o,e2,e3,e4,vs,rfl,r⟩:=R.sl i _ hi;subst e2;exact⟨_,e1,k _ Z H ⟨R.bh,aD.refl _,R.zh,λ_ _ h=>h,λ_ _ _ h=>h⟩ ⟨a,vs,ds,rfl,rfl,R.ob i _ a hi e1,e3,e4,r⟩⟩
 .cases e
def iC(t:Fb)(f g:Fs):Fs:=λenv=>(t env).bind λb=>if b=true then f env else g env
theorem d8(hc:PB X c t)(ha:tm X rg a f)(hb:tm X rg b g):SD X rg (.If c a b pos) (iC t f g):=PS.imp (LM hc ha hb) λE σ H az=>by
 refine cT λ_ kq=>?_;obtain⟨env,B,Z,o,R,e,k⟩:=az;obtain⟨x,e1,e2⟩:=a_.mp e;refine kq (⟨env,B,Z,x,R,e1,λZ1 H1 x1=>?_⟩)
 all_goals clear kq
 cases x with
 | true=>rw[i_ rfl]at e2;exact zE ⟨env,B,Z1,o,R.ext x1,e2,k.later (x1.part R.bh)⟩
 | false=>rw[j_ (by simp)]at e2;exact yo ⟨env,B,Z1,o,R.ext x1,e2,k.later (x1.part R.bh)⟩
def setF(i:Nat)(f:Fe):Fs:=λenv=>(f env).bind λd=>some (.nx (env.set i (.F d)))
def setO(i:Nat)(f:Fe):Fs:=λenv=>(f env).bind λd=>match d with | .lst ds=>some (.nx (env.set i (.O (.L ds)))) | _=>none
theorem CH{f:Fe}{i:Nat}{E:Ends}{σ:L2.St}{H:Hp}(h:Ki X.K rg (setF i f) E σ H):vE (T X.K .cl f) (lU i) E σ H:=by
 refine cT λ_ kq=>?_;obtain⟨env,B,Z,o,R,e,k⟩:=h;obtain⟨d,e1,e2⟩:=a_.mp e;cases e2;exact kq (⟨env,B,Z,d,R,e1,λv Z' H' x g=>k _ Z' H' (x.part R.bh) ((R.ext x).setF i g)⟩)
theorem yQ{f:Fe}{i:Nat}{E:Ends}{σ:L2.St}{H:Hp}(h:Ki X.K rg (setO i f) E σ H):vE (T X.K .nw f) (lU i) E σ H:=by
 refine cT λ_ kq=>?_;obtain⟨env,B,Z,o,R,e,k⟩:=h;obtain⟨d,e1,e2⟩:=a_.mp e;cases d<;>cases e2;rename_i ds;refine kq (⟨env,B,Z,_,R,e1,λv Z' H' x g=>?_⟩)
 all_goals clear kq
 obtain⟨a,vs,Jy,rfl,e3,h1,h2,h3,r⟩:=g;cases e3;refine k _ Z' H' (x.part R.bh) ((R.ext x).setO i (R.bh.free h1) h3 h2 ⟨vs,rfl,r⟩ λj es hj hje hja=>?_);obtain⟨y,e4,b,us,e5,e6,_⟩:=R.sl j _ hje;rw[hja]at e4;cases e4;cases e5;rw[h1]at e6;cases e6
section
variable {x:Str}{e:V9}{fe:Fe}{pos':Pos}
theorem bw(i:Nat)(he:PD X .cl e fe)(hN:X.N.Nodup)(hi:X.N[i]?=some x:=by rfl)(hx:Loc X.env.scope x:=by first | exact Or.inl rfl | exact Or.inr rfl)(hs:swapsWith e (some (.Name x pos')) pos.line X.env=pure false:=by rfl)
  (hf:X.fn x=true\/X.env.scope.names.lookup x=some .local:=by first | exact .inl rfl | exact .inr rfl | assumption):SD X rg (.Assign [.Name x pos'] e pos) (setF i fe):=PS.imp (jY hN hi hx he hs hf) λE σ H h=>CH h
theorem jb(i:Nat)(he:PD X .nw e fe)(hN:X.N.Nodup)(hi:X.N[i]?=some x:=by rfl)(hx:Loc X.env.scope x:=by first | exact Or.inl rfl | exact Or.inr rfl)(hs:swapsWith e (some (.Name x pos')) pos.line X.env=pure false:=by rfl)
  (hf:X.fn x=true\/X.env.scope.names.lookup x=some .local:=by first | exact .inl rfl | exact .inr rfl | assumption):SD X rg (.Assign [.Name x pos'] e pos) (setO i fe):=PS.imp (jY hN hi hx he hs hf) λE σ H h=>yQ h
end
def rN(i:Nat)(f:Fe):Fs:=λenv=>match env[i]? with
 | some (.O (.L ds))=>(f env).bind λd=>if ds.length<16000000 then some (.nx (env.set i (.O (.L (ds++[d])))))else none
 | _=>none
theorem xw(i:Nat)(he:PD X .cl e fe)(hN:X.N[i]?=some x:=by rfl)(hv:qP X.env.scope x:=by first | exact Or.inl rfl | exact Or.inr (Or.inl rfl) | exact Or.inr (Or.inr rfl))
  (hd:(x==("__debug__":Str))=false:=by decide) (eM:(x==("__classdict__":Str))=false:=by decide) (hst:starEach [e] X.env=[(false,eval e X.env)]:=by rfl)
  (fM:attributeBase (.Name x px) "append" X.env (eval (.Name x px) X.env)=eval (.Name x px) X.env:=by rfl)
  (kG:((backTo bA (starEach [e] X.env)).all (λx=>!x.1)&&(backToKw bA (keywordEach [] X.env)).all (λx=>x.1.isSome)
   && decide (([e]:VU).length+([]:List Keyword).length+(if([]:List Keyword).isEmpty then 0 else 1)<30))=true:=by rfl)
  (fN:(apos.endLine==bA.line)=true:=by rfl)
  (hs:swapsWith (.Call (.Attribute (.Name x px) "append" apos) [e] [] bA) none pos.line X.env=pure false:=by rfl) :
  SD X rg (.Expr (.Call (.Attribute (.Name x px) "append" apos) [e] [] bA) pos) (rN i fe):=by
 refine PS.imp (fR (pG SY Uu Uv iw (cF hN hv hd eM) (aY he cj hst) fM kG fN hst rfl) hs) λE σ H az=>?_;obtain⟨env,B,Z,o,R,e,k⟩:=az;unfold rN at e
 split at e
 .rename_i ds hi;obtain⟨d,e1,e2⟩:=a_.mp e;obtain⟨hl,rfl⟩:=rh e2
  .obtain⟨y,e3,a,o,e4,e5,e6,vs,rfl,r⟩:=R.sl i _ hi;subst e4;refine⟨_,e3,.inl ⟨rfl,vs,cW.of e5⟩,env,B,Z,d,R,e1,λv Z1 H1 x1 g1=>?_⟩;have R1:=R.ext x1;have r1:=ai.mono x1.z ds r;have ha:=x1.h _ _ e5;refine⟨a,vs,v,rfl,rfl,ha,by rw[<- r.len,Sr];lia,?_⟩;obtain⟨R2,x2⟩:=R1.wr hi e3 (dq.l (r1.app (ai.one g1)));exact k σ Z1 _ ((x1.part R.bh).transB x2) R2
 .cases e
end
abbrev Ft:=D->En->Option En
def RS(K:Fg)(t:Ft):TG:=λv σ H Q=>∃env B Z d env',Rl K B Z H env σ/\Rep K Z d v/\t d env=some env'/\∀σ' Z' H',Ex Z H Z' H'->Rl K B Z' H' env' σ'->Q σ' H'
def GD(X:Cx)(tg:V9)(t:Ft):Prop:=PG X tg (RS X.K t)
section
variable {X:Cx}{rg:Gr}
theorem PG.imp(h:PG X e t)(i:∀v σ H Q,t' v σ H Q->t v σ H Q):PG X e t':=λpins s σ H v u Q I r q=>h pins s σ H v u Q I r (i v σ H Q q)
def aZ(i:Nat):Ft:=λd env=>some (env.set i (.F d))
theorem aC(i:Nat)(hN:X.N.Nodup)(hi:X.N[i]?=some x:=by rfl)(hx:Loc X.env.scope x:=by first | exact Or.inl rfl | exact Or.inr rfl)
  (hf:X.fn x=true\/X.env.scope.names.lookup x=some .local:=by first | exact .inl rfl | exact .inr rfl | assumption):GD X (.Name x pos) (aZ i):=PG.imp (lD hN hi hx hf) λv σ H Q az=>by
 obtain⟨env,B,Z,d,env',R,r,e,k⟩:=az;cases e;exact k _ Z H (Ex.refl R.zh) (R.setF i r)
def eo:VW->Wf->En->Option En
 | [],[],env=>some env
 | i::is,d::ds,env=>eo is ds (env.set i (.F d))
 | _,_,_=>none
def O8(K:Fg)(is:VW):TGs:=λvs σ H Q=>∃env B Z ds env',Rl K B Z H env σ/\ai K Z ds vs/\eo is ds env=some env'/\∀σ',Rl K B Z H env' σ'->Q σ' H
def H8(X:Cx)(MU:VU)(is:VW):Prop:=y7 X MU (O8 X.K is)
theorem y7.imp(h:y7 X e t)(i:∀v σ H Q,t' v σ H Q->t v σ H Q):y7 X e t':=λpins s σ H v u Q I r q=>h pins s σ H v u Q I r (i v σ H Q q)
theorem cq:H8 X [] []:=y7.imp DY λv σ H Q az=>by
 obtain⟨env,B,Z,ds,env',R,r,e,k⟩:=az;cases ds with
 | nil=>cases e;exact⟨r,k _ R⟩
 | cons d ds=>cases e
theorem aH(i:Nat)(hN:X.N.Nodup)(h:H8 X MU is)(hi:X.N[i]?=some x:=by rfl)(hx:Loc X.env.scope x:=by first | exact Or.inl rfl | exact Or.inr rfl)
  (hf:X.fn x=true\/X.env.scope.names.lookup x=some .local:=by first | exact .inl rfl | exact .inr rfl | assumption)
  (hs:(assignEach (.Name x pos::MU) X.env).map (·.2)=assign (.Name x pos) X.env::(assignEach MU X.env).map (·.2):=by rfl):H8 X (.Name x pos::MU) (i::is):=y7.imp (tJ (lD hN hi hx hf) h hs) λv σ H Q az=>by
 obtain⟨env,B,Z,ds,env',R,r,e,k⟩:=az;cases ds with
 | nil=>cases e
 | cons d ds=>
  obtain⟨w,rr,e1,r1,r2⟩:=r;exact⟨w,rr,e1,env.set i (.F d),B,Z,ds,env',R.setF i r1,r2,e,k⟩
def rT(is:VW):Ft:=λd env=>match d with
 | .tup ds=>eo is ds env
 | _=>none
theorem i5:∀{is:VW}{ds:Wf}{env env':En},eo is ds env=some env'->ds.length=is.length
 | [],[],_,_,_=>rfl
 | i::is,d::ds,_,_,h=>by simp[i5 (ds:=ds) h]
 | [],_::_,_,_,h=>by cases h
 | _::_,[],_,_,h=>by cases h
theorem iW(hc:X.calm=true)(h:H8 X es is)(hn:(assignEach es X.env).length=is.length:=by rfl)(hst:(assignEach es X.env).findIdx? (·.1)=none:=by rfl):GD X (.Tuple es k pos) (rT is):=
 PG.imp (G1 hc h hn hst) λv σ H Q az=>by
  refine cT λ_ kq=>?_;obtain⟨env,B,Z,d,env',R,r,e,k⟩:=az;cases d<;>try cases e
  rename_i ds;obtain⟨a,vs,e1,hq,rr⟩:=r;exact kq (⟨a,vs,e1,cI R.zh hq,by rw[<- rr.len];exact i5 e,env,B,Z,ds,env',R,rr,e,λσ'=>k σ' Z H (Ex.refl R.zh)⟩)
def dA(t:Ft)(body:Fs):Wf->Fs
 | [],env=>some (.nx env)
 | d::ds,env=>(t d env).bind λe1=>(body e1).bind λo=>match o with
  | .nx e2=>dA t body ds e2
  | .ct e2=>dA t body ds e2
  | .bk e2=>some (.nx e2)
  | .rt d=>some (.rt d)
abbrev Fi:=En->We
def Walk(K:Fg)(Z1:Hp)(ds:Wf)(J:It):Prop:=∀(Z' H':Hp),aD Z1 Z'->aD Z' H'->∀i,
 (i<ds.length->J.go i H'/\∀x H'',J.yld i H' x H''->∃Z'' d,Ex Z' H' Z'' H''/\ds[i]?=some d/\Rep K Z'' d x)/\(ds.length<=i->J.stop i H')
def R0(K:Fg)(f:Fi):TI:=λσ H R=>∃env B Z ds,Rl K B Z H env σ/\f env=some ds/\∀J Z1 H1,Ex Z H Z1 H1->Walk K Z1 ds J->R J H1
def ID(X:Cx)(tg iter:V9)(f:Fi):Prop:=PI X tg iter (R0 X.K f)
theorem PI.imp(h:PI X tg e t)(i:∀σ H R,t' σ H R->t σ H R):PI X tg e t':=λpins s σ H R I q=>h pins s σ H R I (i σ H R q)
def cw(f:Fe):Fi:=λenv=>(f env).bind λd=>match d with | .lst ds=>some ds | _=>none
def nE(f:Fe):Fi:=λenv=>(f env).bind λd=>match d with | .tup ds=>some ds | _=>none
theorem yu{K:Fg}{Z1:Hp}{a:V8}{vs:Wh}{ds:Wf}(q:cW K Z1 a vs)(rr:ai K Z1 ds vs):Walk K Z1 ds (Pb K a):=λZ' H' s1 s2 i=>by
 have q':=(s1.trans s2).seq q;refine⟨λhi=>⟨⟨vs,vs[i]'(by rw[<- rr.len];exact hi),q',by simp[<- rr.len,hi]⟩,λx H'' y=>?_⟩,λhi=>⟨vs,q',by rw[<- rr.len];exact hi⟩⟩;refine cT λ_ kq=>?_;obtain⟨e,y⟩:=y;obtain⟨d,h1,h2⟩:=rr.getV (y vs q');subst e;exact kq (⟨Z',d,Ex.refl s2,h1,Rep.mono s1 d h2⟩)
theorem BX{K:Fg}{Z1:Hp}{a:V8}{vs:Wh}{ds:Wf}(q:c7 K Z1 a vs)(rr:ai K Z1 ds vs):Walk K Z1 ds (Oy K a):=λZ' H' s1 s2 i=>by
 have q':=cI (s1.trans s2) q;refine⟨λhi=>⟨⟨vs,vs[i]'(by rw[<- rr.len];exact hi),q',by simp[<- rr.len,hi]⟩,λx H'' y=>?_⟩,λhi=>⟨vs,q',by rw[<- rr.len];exact hi⟩⟩;refine cT λ_ kq=>?_;obtain⟨e,y⟩:=y;obtain⟨d,h1,h2⟩:=rr.getV (y vs q');subst e;exact kq (⟨Z',d,Ex.refl s2,h1,Rep.mono s1 d h2⟩)
theorem aW(h:PD X .cl l f):ID X tg l (cw f):=PI.imp (Eo h) λσ H R az=>by
 refine cT λ_ kq=>?_;obtain⟨env,B,Z,ds,Rr,e,k⟩:=az;obtain⟨d,e1,e2⟩:=a_.mp e;cases d<;>cases e2;refine kq (⟨env,B,Z,_,Rr,e1,λv Z1 H1 x1 g1=>?_⟩)
 all_goals clear kq
 obtain⟨a,vs,e,q,r⟩:=g1;exact⟨a,e,⟨vs,x1.zh.seq q⟩,k _ Z1 H1 x1 (yu q r)⟩
theorem kR(h:PD X .cl l f):ID X tg l (nE f):=PI.imp (Jd h) λσ H R az=>by
 refine cT λ_ kq=>?_;obtain⟨env,B,Z,ds,Rr,e,k⟩:=az;obtain⟨d,e1,e2⟩:=a_.mp e;cases d<;>cases e2;refine kq (⟨env,B,Z,_,Rr,e1,λv Z1 H1 x1 g1=>?_⟩)
 all_goals clear kq
 obtain⟨a,vs,e,q,r⟩:=g1;exact⟨a,e,⟨vs,cI x1.zh q⟩,k _ Z1 H1 x1 (BX q r)⟩
def aU(lo:Int)(n:Nat):Wf:=(List.range n).map λi=>.int (lo+(i:Nat))
theorem Br{K:Fg}{Z1:Hp}(lo:Int)(n:Nat):Walk K Z1 (aU lo n) (NM lo n):=λZ' H' s1 s2 i=>by
 have hl:(aU lo n).length=n:=by simp[aU]
 rw[hl];refine⟨λhi=>⟨hi,λx H'' y=>?_⟩,λh=>h⟩;obtain⟨e,y⟩:=y;subst e;subst y;exact⟨Z',.int (lo+i),Ex.refl s2,by simp[aU,hi],rfl⟩
def AC(j:Int):Bool:=decide (-4000000000000000000<j/\j<4000000000000000000)
def cY(f:Fe):Fi:=λenv=>(f env).bind λd=>match d with
 | .int j=>if AC j then some (aU 0 j.toNat)else none
 | _=>none
theorem a5(hm:X.mg "range"=none)(h:PD X ga l f)(hg:Gl X "range":=by rfl)(hs:starEach [l] X.env=[(false,eval l X.env)]:=by rfl):ID X tg (.Call (.Name "range" p) [l] [] pos) (cY f):=
 PI.imp (ya hg hm (aY h cj hs) hs) λσ H R az=>by
  obtain⟨env,B,Z,ds,Rr,e,k⟩:=az;obtain⟨d,e1,e2⟩:=a_.mp e;cases d<;>try cases e2
  rename_i j;obtain⟨hj,rfl⟩:=rh e2
  .have hj':=H_ hj;refine⟨env,B,Z,_,Rr,e1,λv Z1 H1 x1 g1=>⟨j,by rw[g1.int],by omega,by omega,k _ Z1 H1 x1 (Br 0 j.toNat)⟩⟩
def eY(fi:Fi)(t:Ft)(body:Fs):Fs:=λenv=>(fi env).bind λds=>dA t body ds env
theorem d6(hp:PassesOwn (model X.prog X.w) X.A X.env X.xe)(hc:X.calm=true)(hi:ID X tg iter fi)(hg:GD X tg t)(hb:tm X rg body fb)
  (hs:∀x,foldedSetIterable iter X.env x=pure x:=by intro _;rfl):SD X rg (.For tg iter body [] pos) (eY fi t fb):=PS.imp (Cz hp hc hi hg hb hs) λE σ H az=>by
 refine cT λ_ kq=>?_;obtain⟨env,B,Z,o,R,e,k⟩:=az;obtain⟨ds,e1,e2⟩:=a_.mp e;refine kq (⟨env,B,Z,ds,R,e1,λJ Z1 H1 x1 wk=>?_⟩)
 all_goals clear kq
 let In:Nat->L2.St->Hp->Prop:=λi σ H=>∃env' Z',Ex Z B Z' H/\aD Z1 Z'/\Rl X.K B Z' H env' σ/\dA t fb (ds.drop i) env'=some o
 refine⟨λi m σ H=>m=ds.length-i/\i<=ds.length/\In i σ H,⟨ds.length,by simp,Ts _,env,Z1,x1.part R.bh,aD.refl _,R.ext x1,by simpa using e2⟩,?_⟩;rintro i m σ2 H2 ⟨rfl,hi,env',Z',x2,s2,R2,e3⟩;obtain⟨w1,w2⟩:=wk Z' H2 s2 R2.zh i
 by_cases fg:i<ds.length
 .obtain⟨go,yl⟩:=w1 fg;refine .inr ⟨go,In (i+1),λσ' H' n=>⟨ds.length-(i+1),by omega,rfl,fg,n⟩,λx H3 y=>?_⟩;refine cT λ_ kq=>?_;obtain⟨Z3,d,x3,hd,r3⟩:=yl x H3 y;have MV:ds.drop i=d::ds.drop (i+1):=by
   obtain⟨h1,h2⟩:=s_.mp hd;rw[Tq h1,h2]
  rw[MV]at e3;unfold dA at e3;obtain⟨MW,e4,e5⟩:=a_.mp e3;obtain⟨o1,e6,e7⟩:=a_.mp e5;have R3:=R2.ext x3;refine kq (⟨env',B,Z3,d,MW,R3,r3,e4,λσ4 Z4 H4 y4 R4=>⟨MW,B,Z4,o1,R4,e6,?_⟩⟩)
  all_goals clear kq
  have x4:=x2.transB ((x3.trans y4).part R2.bh);have s4:=(s2.trans x3.z).trans y4.z;cases o1 with
  | nx FR=>exact λσ5 Z5 H5 x5 R5=>⟨FR,Z5,x4.transB x5,s4.trans x5.z,R5,e7⟩
  | ct FR=>exact λσ5 Z5 H5 x5 R5=>⟨FR,Z5,x4.transB x5,s4.trans x5.z,R5,e7⟩
  | bk FR=>cases e7;exact λσ5 Z5 H5 x5 R5=>k σ5 Z5 H5 (x4.transB x5) R5
  | rt d=>cases e7;exact λv Z5 H5 x5 g5=>k v Z5 H5 (x4.transB x5) g5
 .refine .inl ⟨w2 (by omega),?_⟩;rw[UK (by omega)]at e3;cases e3;exact k σ2 Z' H2 x2 R2
def wB(is:VW)(f:Fe):Fs:=λenv=>(f env).bind λd=>(rT is d env).bind λe=>some (.nx e)
theorem vh(hc:X.calm=true)(he:PD X .cl e fe)(h:H8 X es is)(hn:(assignEach es X.env).length=is.length:=by rfl)(hst:(assignEach es X.env).findIdx? (·.1)=none:=by rfl)
  (hs:swapsWithSole [.Tuple es k p2] e pos.line X.env=pure false:=by rfl) (hw:swappedStores [.Tuple es k p2] e X.env=pure none:=by rfl) (h1:(assignEach [.Tuple es k p2] X.env).map (·.2)=[assign (.Tuple es k p2) X.env]:=by rfl) :
  SD X rg (.Assign [.Tuple es k p2] e pos) (wB is fe):=PS.imp (uU he (iW hc h hn hst) hs hw h1) λE σ H az=>by
 refine cT λ_ kq=>?_;obtain⟨env,B,Z,o,R,e,k⟩:=az;obtain⟨d,e1,e⟩:=a_.mp e;obtain⟨en,e2,e⟩:=a_.mp e;cases e;refine kq (⟨env,B,Z,d,R,e1,λv Z1 H1 x1 g1=>⟨env,B,Z1,d,en,R.ext x1,g1,e2,λσ' Z2 H2 x2 R'=>k σ' Z2 H2 ((x1.trans x2).part R.bh) R'⟩⟩)
def cb(n:Nat)(ds:Wf):En:=ds.map .F++List.replicate (n-ds.length) .un
def bF(f:Fs)(n:Nat)(ds:Wf):Wg:=(f (cb n ds)).bind λo=>match o with | .rt d=>some d | _=>none
theorem Rl.start{K:Fg}{Z H:Hp}{N:VS}{ds:Wf}{vs:Wh}(s:aD Z H)(r:ai K Z ds vs):Rl K H Z H (cb N.length ds) (start N vs):=by
 have hl:=r.len;have noO:∀(i:Nat)(es:ox),(cb N.length ds)[i]?≠some (.O es):=λi es h=>by
  unfold cb at h
  by_cases hi:i<ds.length
  .rw[D_ (by simpa using hi),u_]at h;cases q:ds[i]? with
   | none=>rw[q]at h;cases h
   | some d=>rw[q]at h;cases h
  .rw[q_ (by simpa using hi),Sn]at h
   split at h<;>cases h
 refine⟨aD.refl _,s,by simp[cb,L2.start,hl],λi sl h=>?_,λi es a h=>absurd h (noO i es),λi j es _ a _ h=>absurd h (noO i es)⟩;unfold cb at h;unfold L2.start
 by_cases hi:i<ds.length
 .rw[D_ (by simpa using hi),u_]at h;cases q:ds[i]? with
  | none=>rw[q]at h;cases h
  | some d=>
   rw[q]at h;cases h;obtain⟨v,h1,h2⟩:=r.get q;exact⟨some v,by rw[D_ (by simpa [<- hl]using hi),u_,h1];rfl,v,rfl,h2⟩
 .rw[q_ (by simpa using hi),Sn]at h
  split at h
  .rename_i hk;cases h;refine⟨none,?_,trivial⟩;rw[q_ (by simpa [<- hl]using hi),Sn,i_ (by simpa [hl]using hk)]
  .cases h
end
section
variable {P:V2}{w:V5}{K:Fg}{mg:VL}{base:V4}
theorem Q4{x qual:Str}{st:V_}{f:V8}{fd:V6}{N ps:VS}{k:Nat}{g:Gr}{m:Wf->Wg}{fb:Fs}(F:xR K x qual st f fd)(S:bY N ps (aq st))
  (hb:∀(bP:V0)(A:V3)(outer:List Env)(s:V1)(H:Hp)(E:XK),bo k (A.deeper (envOfC qual (aq st) s.sz f bP))->tm (gE jk P w K mg base N qual (aq st) f bP A outer s H E).nox g (aP st) fb)
  (hm:∀ds d,ds.length=ps.length->m ds=some d->bF fb N.length ds=some d):dM P w K mg base jk (k+1) f fd ps (Do K ps.length g m):=by
 refine F.ok S (λvs H Q E ⟨Z,ds,d,hl,_,r,_⟩=>by rw[<- r.len];exact hl) λbP A outer s H vs Q E hr az=>?_;obtain⟨Z,ds,d,hl,s1,r,e,kk⟩:=az;refine⟨_,hb bP A outer s H E hr,?_⟩;obtain⟨o,e1,e2⟩:=a_.mp (hm ds d hl e);refine⟨_,H,Z,o,Rl.start s1 r,e1,?_⟩;cases o with
 | rt d'=>cases e2;exact kk
 | nx _=>cases e2
 | bk _=>cases e2
 | ct _=>cases e2
end
mutual
def toPy:D->PyData
 | .non=>.none
 | .bl b=>.bool b
 | .int i=>.int i
 | .str x=>.str x
 | .tup ds=>.tuple (dF ds)
 | .lst ds=>.list (dF ds)
 | .dct _=>.none
 | .st _=>.none
 | .ln _=>.none
 | .mp _ _ _=>.none
 | .ix _ _ _=>.none
 | .nt _ _=>.none
 | .ob _ _=>.none
def dF:Wf->List PyData
 | []=>[]
 | d::ds=>toPy d::dF ds
end
mutual
def pl:D->Bool
 | .tup ds=>gK ds
 | .lst ds=>gK ds
 | .dct _=>false
 | .st _=>false
 | .ln _=>false
 | .mp _ _ _=>false
 | .ix _ _ _=>false
 | .nt _ _=>false
 | .ob _ _=>false
 | _=>true
def gK:Wf->Bool
 | []=>true
 | d::ds=>pl d&&gK ds
end
mutual
def dO:D->D->Bool
 | .non,.non=>true
 | .bl a,.bl b=>a==b
 | .bl a,.int j=>(if a then 1 else 0)==j
 | .int i,.bl b=>i==(if b then 1 else 0)
 | .int i,.int j=>i==j
 | .str x,.str y=>x==y
 | .tup xs,.tup ys=>i8 xs ys
 | .lst xs,.lst ys=>i8 xs ys
 | _,_=>false
def i8:Wf->Wf->Bool
 | [],[]=>true
 | x::xs,y::ys=>dO x y&&i8 xs ys
 | _,_=>false
end
mutual
theorem jN:∀(d e:D),pl d=true->pl e=true->PyData.eqv (toPy d) (toPy e)=dO d e
 | .non,e,_,h=>by cases e<;>first | (simp[pl]at h;done) | simp[toPy,PyData.eqv,dO]
 | .bl b,e,_,h=>by cases e<;>first | (simp[pl]at h;done) | simp[toPy,PyData.eqv,dO]
 | .int i,e,_,h=>by cases e<;>first | (simp[pl]at h;done) | simp[toPy,PyData.eqv,dO]
 | .str x,e,_,h=>by cases e<;>first | (simp[pl]at h;done) | simp[toPy,PyData.eqv,dO]
 | .tup ds,e,h1,h=>by
  unfold pl at h1;cases e
  case tup es=>unfold pl at h;simp[toPy,PyData.eqv,dO,hU ds es h1 h]
  case lst es=>unfold pl at h;simp[toPy,PyData.eqv,dO,hU ds es h1 h]
  all_goals first | (simp[pl]at h;done) | simp[toPy,PyData.eqv,dO]
 | .lst ds,e,h1,h=>by
  unfold pl at h1;cases e
  case tup es=>unfold pl at h;simp[toPy,PyData.eqv,dO,hU ds es h1 h]
  case lst es=>unfold pl at h;simp[toPy,PyData.eqv,dO,hU ds es h1 h]
  all_goals first | (simp[pl]at h;done) | simp[toPy,PyData.eqv,dO]
theorem hU:∀(ds es:Wf),gK ds=true->gK es=true->PyData.eqvAll (dF ds) (dF es)=i8 ds es
 | [],es,_,_=>by cases es<;>simp[dF,PyData.eqvAll,i8]
 | d::ds,es,h1,h2=>by
  unfold gK at h1;rw[C_]at h1;cases es with
  | nil=>simp[dF,PyData.eqvAll,i8]
  | cons e es=>
   unfold gK at h2;rw[C_]at h2;simp[dF,PyData.eqvAll,i8,jN d e h1.1 h2.1,hU ds es h1.2 h2.2]
end
mutual
def ec:D->Nat
 | .tup ds=>lj ds+1
 | .lst ds=>lj ds+1
 | _=>0
def lj:Wf->Nat
 | []=>0
 | d::ds=>max (ec d) (lj ds)
end
mutual
theorem dD:∀(d:D),(toPy d).depth=ec d
 | .non=>by simp[toPy,PyData.depth,ec]
 | .bl b=>by simp[toPy,PyData.depth,ec]
 | .int i=>by simp[toPy,PyData.depth,ec]
 | .str x=>by simp[toPy,PyData.depth,ec]
 | .tup ds=>by simp[toPy,PyData.depth,ec,i7 ds]
 | .lst ds=>by simp[toPy,PyData.depth,ec,i7 ds]
 | .dct ks=>by simp[toPy,PyData.depth,ec]
 | .st ks=>by simp[toPy,PyData.depth,ec]
 | .ln ks=>by simp[toPy,PyData.depth,ec]
 | .mp _ _ _=>by simp[toPy,PyData.depth,ec]
 | .ix _ _ _=>by simp[toPy,PyData.depth,ec]
 | .nt _ _=>by simp[toPy,PyData.depth,ec]
 | .ob _ _=>by simp[toPy,PyData.depth,ec]
theorem i7:∀(ds:Wf),PyData.depthAll (dF ds)=lj ds
 | []=>by simp[dF,PyData.depthAll,lj]
 | d::ds=>by simp[dF,PyData.depthAll,lj,dD d,i7 ds]
end
section
variable {X:Cx}{pins:VI}{σ:L2.St}{H:Hp}{s:V1}
mutual
theorem c8(I:Inv X pins σ H s):∀(d:D){x:V}{v:V0},pl d=true->Rep X.K H d x->RelV x v->∃as,Reads s.heap v (toPy d) as
 | .non,_,_,_,h,r=>by cases(show _=V.non from h);cases r;exact⟨_,.none⟩
 | .bl b,_,_,_,h,r=>by cases(show _=V.bl b from h);cases r;exact⟨_,.bool b⟩
 | .int i,_,_,_,h,r=>by cases(show _=V.int i from h);obtain⟨t,rfl⟩:=r;exact⟨_,.int i t⟩
 | .str y,_,_,_,h,r=>by obtain⟨h,_⟩:=h;subst h;obtain⟨t,rfl⟩:=r;exact⟨_,.str y t⟩
 | .tup ds,_,_,hp,h,r=>by
  unfold pl at hp;refine cT λ_ kq=>?_;obtain⟨a,vs,e,q,rr⟩:=h;subst e;cases r;obtain⟨bu,rv,⟨o,ho,hc,n,hd⟩,_⟩:=I.tuple q;obtain⟨as,ra⟩:=jW I ds hp rr rv;exact kq (⟨as,.tuple ho hc hd (by simpa [toPy]using ra)⟩)
 | .lst ds,_,_,hp,h,r=>by
  unfold pl at hp;refine cT λ_ kq=>?_;obtain⟨a,vs,e,q,rr⟩:=h;subst e;cases r;obtain⟨bu,rv,pl,_⟩:=I.list q;obtain⟨o,ho,hc,n,hd⟩:=pl.isList;obtain⟨as,ra⟩:=jW I ds hp rr rv;exact kq (⟨_,.list ho hc hd (by simpa [toPy]using ra)⟩)
 | .dct ks,_,_,hp,_,_=>by unfold pl at hp;cases hp
 | .st ks,_,_,hp,_,_=>by unfold pl at hp;cases hp
 | .ln ks,_,_,hp,_,_=>by unfold pl at hp;cases hp
 | .mp _ _ _,_,_,hp,_,_=>by unfold pl at hp;cases hp
 | .ix _ _ _,_,_,hp,_,_=>by unfold pl at hp;cases hp
 | .nt _ _,_,_,hp,_,_=>by unfold pl at hp;cases hp
 | .ob _ _,_,_,hp,_,_=>by unfold pl at hp;cases hp
theorem jW(I:Inv X pins σ H s):∀(ds:Wf){vs:Wh}{us:VP},gK ds=true->ai X.K H ds vs->aw vs us->∃as,ReadsAll s.heap us (dF ds) as
 | [],_,_,_,h,r=>by cases(show _=[]from h);cases r;exact⟨_,by simpa [dF]using ReadsAll.nil⟩
 | d::ds,_,_,hp,h,r=>by
  unfold gK at hp;rw[C_]at hp;obtain⟨v,vr,e,h1,h2⟩:=h;subst e;cases r with
  | cons r1 r2=>
   refine cT λ_ kq=>?_;obtain⟨as,q1⟩:=c8 I d hp.1 h1 r1;obtain⟨bs,q2⟩:=jW I ds hp.2 h2 r2;exact kq (⟨_,by simpa [dF]using ReadsAll.cons q1 q2⟩)
end
mutual
theorem eX:∀(d:D){x:V},Rep X.K H d x->(toPy d).canLay0=true
 | .non,_,_=>by simp[toPy,PyData.canLay0]
 | .bl b,_,_=>by simp[toPy,PyData.canLay0]
 | .int i,_,_=>by simp[toPy,PyData.canLay0]
 | .str y,_,h=>by simp[toPy,PyData.canLay0,h.2]
 | .tup ds,_,⟨a,vs,e,q,rr⟩=>by simp[toPy,PyData.canLay0,qh ds rr]
 | .lst ds,_,⟨a,vs,e,q,rr⟩=>by simp[toPy,PyData.canLay0,qh ds rr]
 | .dct ks,_,_=>by simp[toPy,PyData.canLay0]
 | .st ks,_,_=>by simp[toPy,PyData.canLay0]
 | .ln ks,_,_=>by simp[toPy,PyData.canLay0]
 | .mp _ _ _,_,_=>by simp[toPy,PyData.canLay0]
 | .ix _ _ _,_,_=>by simp[toPy,PyData.canLay0]
 | .nt _ _,_,_=>by simp[toPy,PyData.canLay0]
 | .ob _ _,_,_=>by simp[toPy,PyData.canLay0]
theorem qh:∀(ds:Wf){vs:Wh},ai X.K H ds vs->PyData.canLayAll0 (dF ds)=true
 | [],_,_=>by simp[dF,PyData.canLayAll0]
 | d::ds,_,⟨v,vr,e,h1,h2⟩=>by simp[dF,PyData.canLayAll0,eX d h1,qh ds h2]
end
def fK(d e:D):Bool:=(pl d&&pl e)&&(decide (ec d<=60)||decide (ec e<=60))
def DO(K:Fg)(neg:Bool):R2:=λx y H Q=>∃dx dy,Rep K H dx x/\Rep K H dy y/\fK dx dy=true/\Q (.bl (if neg then !dO dx dy else dO dx dy)) H
theorem ve(h:u+64<cLine)(h2:a<=60\/b<=60):u+min a b<cLine:=by lia
theorem ub(h:fK d e=true):ec d<=60\/ec e<=60:=by unfold fK at h;rw[C_]at h;simpa using h.2
theorem tY(h:fK d e=true):pl d=true/\pl e=true:=by unfold fK at h;rw[C_,C_]at h;exact h.1
theorem Cn(hu:X.A.units+64<cLine):jn X (compareOp .Eq) (DO X.K false):=by
 intro pins s σ H x y v u Q I rx ry h;refine cT λ_ kq=>?_;obtain⟨dx,dy,h1,h2,hd,q⟩:=h;obtain⟨p1,p2⟩:=tY hd;obtain⟨as,r1⟩:=c8 I dx p1 h1 rx;obtain⟨bs,r2⟩:=c8 I dy p2 h2 ry;refine kq (SeqAt.compareEq_reads r1 r2 (eX dx h1) (eX dy h2) (by rw[dD,dD];exact ve hu (ub hd)) ?_)
 all_goals clear kq
 rw[jN _ _ p1 p2];exact⟨.bl _,H,I,rfl,q⟩
theorem IS(hu:X.A.units+64<cLine):jn X (compareOp .NotEq) (DO X.K true):=by
 intro pins s σ H x y v u Q I rx ry h;refine cT λ_ kq=>?_;obtain⟨dx,dy,h1,h2,hd,q⟩:=h;obtain⟨p1,p2⟩:=tY hd;obtain⟨as,r1⟩:=c8 I dx p1 h1 rx;obtain⟨bs,r2⟩:=c8 I dy p2 h2 ry;refine kq (SeqAt.compareNe_reads r1 r2 (eX dx h1) (eX dy h2) (by rw[dD,dD];exact ve hu (ub hd)) ?_)
 all_goals clear kq
 rw[jN _ _ p1 p2];exact⟨.bl _,H,I,rfl,q⟩
def gv:D->D->Wg:=λa b=>if fK a b=true then some (.bl (dO a b))else none
def pB:D->D->Wg:=λa b=>if fK a b=true then some (.bl !dO a b)else none
theorem KM{K:Fg}:cX K .cl gv (DO K false):=λ{Z H x y dx dy d Q} s h1 h2 e k=>by
 obtain⟨hd,rfl⟩:=rh e;exact⟨dx,dy,h1.rep s,h2.rep s,hd,k _ Z H (Ex.refl s) rfl⟩
theorem OP{K:Fg}:cX K .cl pB (DO K true):=λ{Z H x y dx dy d Q} s h1 h2 e k=>by
 obtain⟨hd,rfl⟩:=rh e;exact⟨dx,dy,h1.rep s,h2.rep s,hd,k _ Z H (Ex.refl s) rfl⟩
variable {l r c:V9}{fa fb fc:Fe}{ga gb gc:Gr}{pos p p2:Pos}{k:Nat}
theorem LB(hr:bo k X.A)(ha:PD X ga l fa)(hb:PD X gb r fb):PD X .cl (.Compare l [.Eq] [r] pos) (ak gv fa fb):=sF (Cn hr.units) KM ha hb (fV _)
theorem iE(hr:bo k X.A)(ha:PD X ga l fa)(hb:PD X gb r fb):PB X (.Compare l [.Eq] [r] pos) (fB (ak gv fa fb)):=kU (Cn hr.units) KM ha hb (fV _)
theorem Ak(hr:bo k X.A)(ha:PD X ga l fa)(hb:PD X gb r fb):PB X (.Compare l [.NotEq] [r] pos) (fB (ak pB fa fb)):=kU (IS hr.units) OP ha hb (fV _)
def inD(d:D)(es:Wf):Bool:=es.any λe=>dO e d
def iV(neg:Bool):D->D->Wg
 | d,.lst es=>if ec d<=60/\(pl d&&gK es)=true then some (.bl (if neg then !inD d es else inD d es))else none
 | d,.tup es=>if ec d<=60/\(pl d&&gK es)=true then some (.bl (if neg then !inD d es else inD d es))else none
 | _,_=>none
def Lz(K:Fg)(neg:Bool):R2:=λx y H Q=>∃dx es p ys,Rep K H dx x/\y=.ref p/\(cW K H p ys\/c7 K H p ys)/\ai K H es ys/\(ec dx<=60/\(pl dx&&gK es)=true)/\Q (.bl (if neg then !inD dx es else inD dx es)) H
noncomputable def dk(h:V4)(d:PyData)(y:V0):Bool:=@decide (∃e as,Reads h y e as/\e.canLay0=true/\PyData.eqv e d=true) (Classical.propDecidable _)
theorem nq(r:Reads h y e as)(c:e.canLay0=true):dk h d y=PyData.eqv e d:=by
 unfold dk;cases q:PyData.eqv e d with
 | true=>exact @x_ _ (Classical.propDecidable _) ⟨e,as,r,c,q⟩
 | false=>
  refine @R_ _ (Classical.propDecidable _) λaz=>?_;obtain⟨e',Du,r',c',q'⟩:=az;rw[SeqAt.Reads.unique e' e y Du as c' r' r]at q';rw[q]at q';cases q'
theorem kC(I:Inv X pins σ H s)(dx:D)(hx:pl dx=true):∀{es:Wf}{ys:Wh}{us:VP},gK es=true->ai X.K H es ys->aw ys us->us.any (dk s.heap (toPy dx))=inD dx es
 | [],_,_,_,h,r=>by cases(show _=[]from h);cases r;rfl
 | e::es,_,_,hp,h,r=>by
  unfold gK at hp;rw[C_]at hp;obtain⟨v,vr,z,h1,h2⟩:=h;subst z;cases r with
  | cons r1 r2=>
   obtain⟨as,q⟩:=c8 I e hp.1 h1 r1;have ih:=kC I dx hx hp.2 h2 r2;unfold inD at ih ⊢;rw[List.any_cons,List.any_cons,ih,nq q (eX e h1),jN _ _ hp.1 hx]
theorem jq(I:Inv X pins σ H s)(hx:Rep X.K H dx x)(rx:RelV x v)(hu:A.units+64<cLine)(hd:ec dx<=60)(Dv:pl dx=true):∀{es:Wf}{ys:Wh}{us:VP},gK es=true->ai X.K H es ys->aw ys us->
  ∀u∈us,SeqAt.EqAt A s u v (dk s.heap (toPy dx) u)
 | [],_,_,_,h,r,u,hm=>by cases(show _=[]from h);cases r;cases hm
 | e::es,_,_,hp,h,r,u,hm=>by
  unfold gK at hp;rw[C_]at hp;obtain⟨w,vr,z,h1,h2⟩:=h;subst z;cases r with
  | cons r1 r2=>
   rcases o_.mp hm with rfl | hm
   .obtain⟨as,q⟩:=c8 I e hp.1 h1 r1;obtain⟨bs,q2⟩:=c8 I dx Dv hx rx;rw[nq q (eX e h1)];exact SeqAt.eqAt_reads _ _ A s _ _ as bs q q2 (eX e h1) (eX dx hx) (by rw[dD,dD];exact ve hu (.inr hd))
   .exact jq I hx rx hu hd Dv hp.2 h2 r2 u hm
theorem vI(hu:X.A.units+66<cLine)(neg:Bool):jn X (compareOp (if neg then .NotIn else .In)) (Lz X.K neg):=by
 intro pins s σ H x y v u Q I rx ry h;obtain⟨dx,es,p,ys,h1,rfl,h2,rr,⟨hd,MX⟩,q⟩:=h;rw[C_]at MX;obtain⟨Dv,JC⟩:=MX;cases ry;have Kq:X.A.in1.units+64<cLine:=by show X.A.units+1+64<cLine;lia
 rcases h2 with h2 | h2
 .obtain⟨bu,r',pl,hz⟩:=I.list h2;have ha:=kC I dx Dv JC rr r';have iM:∀y,y∈bu.toArray->SeqAt.EqAt X.A.in1 s y v (dk s.heap (toPy dx) y):=λy hy=>jq I h1 rx Kq hd Dv JC rr r' y (by simpa using hy);have fin:EP X pins σ Q (.bool (if neg then !bu.toArray.any (dk s.heap (toPy dx))else bu.toArray.any (dk s.heap (toPy dx)))) s:=⟨_,H,I,(by rw[List.any_toArray,ha]<;>rfl),q⟩;cases neg with
  | false=>exact SeqAt.in_listAt _ pl.isList iM fin
  | true=>exact SeqAt.notIn_listAt _ pl.isList iM fin
 .obtain⟨bu,r',pl,hz⟩:=I.tuple h2;have ha:=kC I dx Dv JC rr r';have iM:∀y,y∈bu.toArray->SeqAt.EqAt X.A.in1 s y v (dk s.heap (toPy dx) y):=λy hy=>jq I h1 rx Kq hd Dv JC rr r' y (by simpa using hy);have fin:EP X pins σ Q (.bool (if neg then !bu.toArray.any (dk s.heap (toPy dx))else bu.toArray.any (dk s.heap (toPy dx)))) s:=⟨_,H,I,(by rw[List.any_toArray,ha]<;>rfl),q⟩;cases neg with
  | false=>exact SeqAt.in_tupleAt _ (show s.heap.IsTuple p bu.toArray from pl) iM fin
  | true=>exact SeqAt.notIn_tupleAt _ (show s.heap.IsTuple p bu.toArray from pl) iM fin
theorem HG{K:Fg}{neg:Bool}:cX K .cl (iV neg) (Lz K neg):=λ{Z H x y dx dy d Q} s h1 h2 e k=>by
 cases dy<;>try cases e
 .obtain⟨hd,rfl⟩:=rh e;obtain⟨a,vs,rfl,q,r⟩:=h2.tup s;exact⟨dx,_,a,vs,h1.rep s,rfl,.inr q,ai.mono s _ r,hd,k _ Z H (Ex.refl s) rfl⟩
 .obtain⟨hd,rfl⟩:=rh e;obtain⟨a,vs,rfl,q,r⟩:=h2.lst s;exact⟨dx,_,a,vs,h1.rep s,rfl,.inl q,ai.mono s _ r,hd,k _ Z H (Ex.refl s) rfl⟩
theorem jv(r:bo k A):A.units+66<cLine:=by have:=r.un;lia
theorem ON(hr:bo k X.A)(ha:PD X ga l fa)(hb:PD X gb r fb)(hm:behindInMarks .In r=false:=by rfl):PD X .cl (.Compare l [.In] [r] pos) (ak (iV false) fa fb):=sF (vI (jv hr) false) HG ha hb hm
theorem BD(hr:bo k X.A)(ha:PD X ga l fa)(hb:PD X gb r fb)(hm:behindInMarks .In r=false:=by rfl):PB X (.Compare l [.In] [r] pos) (fB (ak (iV false) fa fb)):=kU (vI (jv hr) false) HG ha hb hm
theorem Gp(hr:bo k X.A)(ha:PD X ga l fa)(hb:PD X gb r fb)(hm:behindInMarks .NotIn r=false:=by rfl):PB X (.Compare l [.NotIn] [r] pos) (fB (ak (iV true) fa fb)):=kU (vI (jv hr) true) HG ha hb hm
inductive Ty where | int | bool | str | tuple | list
def Ty.nm:Ty->String
 | .int=>"int" | .bool=>"bool" | .str=>"str" | .tuple=>"tuple" | .list=>"list"
def NI:Ty->D->Bool
 | .int,.int _=>true
 | .int,.bl _=>true
 | .bool,.bl _=>true
 | .str,.str _=>true
 | .tuple,.tup _=>true
 | .list,.lst _=>true
 | _,_=>false
def R8:D->String
 | .non=>"NoneType" | .bl _=>"bool" | .int _=>"int" | .str _=>"str" | .tup _=>"tuple" | .lst _=>"list" | .dct _=>"dict" | .st _=>"set" | .ln _=>"dict" | .mp _ _ _=>"dict" | .ix _ _ _=>"dict" | .nt _ _=>"dict" | .ob _ _=>"dict"
theorem DB{K:Fg}(T:Ty)(d:D):PySem.W.kitOne K (.type (R8 d)) (.type T.nm)=some (NI T d):=by
 cases T<;>cases d<;>rfl
def Lc:D->Bool
 | .ob _ _=>true
 | _=>false
theorem Ae(T:Ty):dv X (.builtin "isinstance") (λxs H Q=>∃x d,xs=[x,.ty T.nm]/\Lc d=false/\Rep X.K H d x/\Q (.bl (NI T d)) H):=by
 intro pins s σ H xs us Q I r h;obtain⟨x,d,rfl,Kr,hd,q⟩:=h;obtain⟨u,w,rfl,rx,rt⟩:=r.two;cases(show w=Value.type T.nm from rt);have e:=DB (K:=X.K) T d;have fin:∀tk,EP X pins σ Q (.bool (NI T d)) {s with toks:=tk}:=λtk=>⟨.bl _,H,I.tok tk,rfl,q⟩;cases d with
 | non=>cases(show x=V.non from hd);cases(show u=Value.none from rx);exact SB PySem.W.kitx_none I.kIn True.intro e (λz=>nomatch z) fin
 | bl b=>cases(show x=V.bl b from hd);cases(show u=Value.bool b from rx);exact SB PySem.W.kitx_bool I.kIn True.intro e (λz=>nomatch z) fin
 | int i=>cases(show x=V.int i from hd);obtain⟨t,z⟩:=(show ∃t,u=Value.int i t from rx);cases z;exact SB PySem.W.kitx_int I.kIn True.intro e (λz=>nomatch z) fin
 | str y=>obtain⟨hd,_⟩:=hd;subst hd;obtain⟨t,z⟩:=(show ∃t,u=Value.str y t from rx);cases z;exact SB PySem.W.kitx_str I.kIn True.intro e (λz=>nomatch z) fin
 | tup ds=>
  refine cT λ_ kq=>?_;obtain⟨a,vs,e1,hq,rr⟩:=hd;subst e1;cases(show u=Value.ref a from rx);obtain⟨bu,_,⟨o,h1,h2,_⟩,_⟩:=I.tuple hq;exact kq (SB PySem.W.kitx_tuple I.kIn ⟨o,h1,h2⟩ e (λz=>nomatch z) fin)
 | lst ds=>
  refine cT λ_ kq=>?_;obtain⟨a,vs,e1,hq,rr⟩:=hd;subst e1;cases(show u=Value.ref a from rx);obtain⟨bu,_,pl,_⟩:=I.list hq;obtain⟨o,h1,h2,_⟩:=pl.isList;exact kq (SB PySem.W.kitx_list I.kIn ⟨o,h1,h2⟩ e (λz=>nomatch z) fin)
 | dct ks=>
  refine cT λ_ kq=>?_;obtain⟨a,e1,hq⟩:=hd;subst e1;cases(show u=Value.ref a from rx);obtain⟨bs,hq,_⟩:=hq;obtain⟨⟨o,es,ep,h1,h2,_⟩,_⟩:=(show bp X.prog X.w H s.heap a (.ext (Iu a ks bs))from I.hok a _ hq);exact kq (SB Ua I.kIn ⟨o,h1,h2.1⟩ e (λz=>nomatch z) fin)
 | st ps=>
  refine cT λ_ kq=>?_;obtain⟨a,bs,e1,_,hq,_⟩:=hd;subst e1;cases(show u=Value.ref a from rx);obtain⟨⟨o,es,ep,t,h1,h2,_⟩,_⟩:=(show bp X.prog X.w H s.heap a (.ext (gg a ps bs))from I.hok a _ hq);exact kq (SB PySem.W.kitx_set I.kIn ⟨o,h1,h2.1⟩ e (λz=>nomatch z) fin)
 | ln n=>
  refine cT λ_ kq=>?_;obtain⟨a,e1,hq⟩:=hd;subst e1;cases(show u=Value.ref a from rx);obtain⟨⟨o,es,ep,h1,h2,_⟩,_⟩:=(show bp X.prog X.w H s.heap a (.ext (K6 a n))from I.hok a _ hq);exact kq (SB Ua I.kIn ⟨o,h1,h2.1⟩ e (λz=>nomatch z) fin)
 | mp th ks ds=>
  refine cT λ_ kq=>?_;obtain⟨a,bs,vs,e1,hq,_⟩:=hd;subst e1;cases(show u=Value.ref a from rx);obtain⟨⟨o,es,ep,us,h1,h2,_⟩,_⟩:=(show bp X.prog X.w H s.heap a (.ext (ck th a ks bs vs))from I.hok a _ hq);exact kq (SB Ua I.kIn ⟨o,h1,h2.1⟩ e (λz=>nomatch z) fin)
 | ob ns ds=>cases Kr
 | nt ks ds=>
  refine cT λ_ kq=>?_;obtain⟨a,ep,bs,vs,e1,hq,_⟩:=hd;subst e1;cases(show u=Value.ref a from rx);obtain⟨⟨o,es,us,h1,h2,_⟩,_⟩:=(show bp X.prog X.w H s.heap a (.ext (O6 a ep ks bs vs))from I.hok a _ hq);exact kq (SB Ua I.kIn ⟨o,h1,h2.1⟩ e (λz=>nomatch z) fin)
 | ix th ks ds=>
  refine cT λ_ kq=>?_;obtain⟨a,o,vs,e1,hq,⟨_,_,_,_,_,_,_,_,es,ep,h2,_⟩,_⟩:=hd;subst e1;cases(show u=Value.ref a from rx);have h1:s.heap.get? a=some o:=(show bp X.prog X.w H s.heap a (.ext (iN a o))from I.hok a _ hq).1;exact kq (SB Ua I.kIn ⟨o,h1,h2.1⟩ e (λz=>nomatch z) fin)
def Ao(T:Ty):D->Wg:=λd=>if Lc d=false then some (.bl (NI T d))else none
theorem FK(T:Ty):bootBuiltins (Str.ofString T.nm)=some (.type T.nm):=by
 cases T
 .exact PyProof.Rows.boot_int
 .exact PyProof.Rows.boot_bool
 .exact PyProof.Rows.boot_str
 .exact PyProof.Rows.boot_tuple
 .exact PyProof.Rows.boot_list
theorem Bv(T:Ty)(hm:X.mg "isinstance"=none)(Pg:X.mg (Str.ofString T.nm)=none)(ha:PD X ga l fa)(hg:Gl X "isinstance":=by rfl)(hg2:Gl X (Str.ofString T.nm):=by rfl)
  (hn:(Str.ofString T.nm)≠"__name__":=by decide) (nC:((Str.ofString T.nm)==("__debug__":Str))=false:=by decide)
  (he:starEach [l,.Name (Str.ofString T.nm) p2] X.env=(false,eval l X.env)::starEach [.Name (Str.ofString T.nm) p2] X.env:=by rfl) :
  PD X .cl (.Call (.Name "isinstance" p) [l,.Name (Str.ofString T.nm) p2] [] pos) (bt (Ao T) fa):=by
 refine PE.imp (jL (Ae T) hg hm PyProof.Rows.boot_isinstance (aY ha (aY (D7 hg2 Pg (FK T) (show RelV (.ty T.nm) (.type T.nm)from rfl) hn nC) cj rfl) he) (by decide) (by decide) he rfl) λσ H Q az=>?_;refine cT λ_ kq=>?_;obtain⟨env,B,Z,d,R,e,k⟩:=az;obtain⟨x,h1,h2⟩:=a_.mp e;unfold Ao at h2
 split at h2
 .rename_i Kr;cases h2;exact kq (⟨env,B,Z,x,R,h1,λv Z1 H1 x1 g1=>⟨v,x,rfl,Kr,g1.rep x1.zh,k _ Z1 H1 x1 rfl⟩⟩)
 .cases h2
end
section
variable {elt:V9}{gens:VO}{scope:V7}{pos:Pos}{d:Nat}{tg iter:V9}{ifs:VU}{it acc:V0}{env:Env}
def wC(ce tg iter:V9)(ifs:VU)(d:Nat)(it acc:V0)(env:Env)(em:Sem Unit):Sem Fin:=do
  standAt iter.pos
  match <- pyNext it with
  | none=>pure (.done .next)
  | some v=>
   letOwnedTupleGo tg it v
   assign tg env v
   let ok <- forIn ifs true λc r=>if r=true then do let ok <- isTrue c env (eval c env);pure (ForInStep.yield ok)else pure (ForInStep.yield r)
   if ok then em
   again (.compLoop ce d it acc env)
def wZ(ce tg iter bT:V9)(ifs:VU)(d:Nat)(it acc:V0)(env:Env):Sem Fin:=do
  standAt iter.pos
  match <- pyNext it with
  | none=>pure (.done .next)
  | some v=>
   letOwnedTupleGo tg it v
   assign tg env v
   let ok <- forIn ifs true λc r=>if r=true then do let ok <- isTrue c env (eval c env);pure (ForInStep.yield ok)else pure (ForInStep.yield r)
   if ok=true then(do
    let x <- eval bT env
    standAt bT.pos
    let x <- foldedSetIterable bT env x
    let i' <- holding [x] (pyIter x)
    let _ <- runOwn (.compStart ce (d+1) i' acc env) env
    again (.compLoop ce d it acc env))
   else again (.compLoop ce d it acc env)
theorem ym(h:gens[d]?=some ⟨tg,iter,ifs,0⟩)(h2:gens[d+1]?=none):compTurn (.ListComp elt gens scope pos) d it acc env=wC (.ListComp elt gens scope pos) tg iter ifs d it acc env (do let _ <- call (.builtin "list.append") [acc,<- eval elt env]):=by
 unfold compTurn;simp only[h,h2]
 rfl
theorem yg(h:gens[d]?=some ⟨tg,iter,ifs,0⟩)(h2:gens[d+1]?=some ⟨uI,bT,jP,0⟩):compTurn (.ListComp elt gens scope pos) d it acc env=wZ (.ListComp elt gens scope pos) tg iter bT ifs d it acc env:=by
 unfold compTurn;simp only[h,h2]
 rfl
end
def fE(lk:Str->VR):List (Str×NameKind)->VM->Option VM
 | [],acc=>some acc
 | (n,k)::r,acc=>if(k==.free)=true then(lk n).bind λc=>fE lk r ((n,c)::acc)else fE lk r acc
theorem km:∀(names:List (Str×NameKind))(acc cl:VM),fE (λx=>env.cells.lookup x) names acc=some cl->
  (forIn names acc λ(x:Str×NameKind) (r:VM)=>(do if x.2==.free then(do let c <- cellOf env x.1;pure (ForInStep.yield ((x.1,c)::r)))else pure (ForInStep.yield r)):Sem VM)=pure cl
 | [],acc,cl,h=>by cases h;rfl
 | (n,k)::r,acc,cl,h=>by
  rw[List.forIn_cons];unfold fE at h
  by_cases hk:(k==NameKind.free)=true
  .rw[i_ hk]at h;obtain⟨c,h1,h2⟩:=a_.mp h;have JA:cellOf env n=pure c:=by unfold cellOf;rw[show env.cells.lookup n=some c from h1]
   simp only[hk,TK,JA,pure_bind];exact km r _ cl h2
  .rw[j_ hk]at h;simp only[hk,SA,pure_bind];exact km r _ cl h
theorem ej(h:fE (λx=>env.cells.lookup x) scope.names []=some cl):closureFor scope env=pure cl:=by
 have:=km scope.names [] cl h;unfold closureFor;simp only;rw[this]
 rfl
theorem eu:∀{names:List (Str×NameKind)}{acc cl:VM},fE lk names acc=some cl->(∀p∈acc,lk p.1=some p.2)->∀p∈cl,lk p.1=some p.2
 | [],acc,cl,h,ha=>by cases h;exact ha
 | (n,k)::r,acc,cl,h,ha=>by
  unfold fE at h
  split at h
  .obtain⟨c,h1,h2⟩:=a_.mp h;exact eu h2 λp hp=>by
    rcases o_.mp hp with rfl | hp
    .exact h1
    .exact ha p hp
  .exact eu h ha
theorem ft:∀{names:List (Str×NameKind)}{acc cl:VM},fE lk names acc=some cl->∀x,((x,NameKind.free)∈names\/∃c,(x,c)∈acc)->∃c,(x,c)∈cl
 | [],acc,cl,h,x,hx=>by
  cases h;rcases hx with hx | hx
  .cases hx
  .exact hx
 | (n,k)::r,acc,cl,h,x,hx=>by
  unfold fE at h
  split at h
  .rename_i hk;obtain⟨c,h1,h2⟩:=a_.mp h;refine ft h2 x ?_;rcases hx with hx | ⟨c',hx⟩
   .rcases o_.mp hx with e | hx
    .cases e;exact .inr ⟨c,f_⟩
    .exact .inl hx
   .exact .inr ⟨c',d_ _ hx⟩
  .rename_i hk;refine ft h x ?_;rcases hx with hx | hx
   .rcases o_.mp hx with e | hx
    .cases e;exact absurd rfl hk
    .exact .inl hx
   .exact .inr hx
theorem cJ:∀{cl:VM},(x,c)∈cl->∃c',cl.lookup x=some c'
 | [],h=>by cases h
 | (y,b)::r,h=>by
  by_cases e:(x==y)=true
  .exact⟨b,by simp[Sz,e]⟩
  .rcases o_.mp h with z | z
   .cases z;exact absurd (beq_self_eq_true x) e
   .obtain⟨c',h'⟩:=cJ z;exact⟨c',by simp[Sz,e,h']⟩
theorem dE{scope:V7}{env:Env}:∀{names:List (Str×NameKind)}{x:Str}{k:NameKind},
  (names.map λ(n,k)=>if(k==NameKind.free&&env.scope.kind==.function&&env.kindOf n==some .cell)then(n,NameKind.cell)else(n,k)).lookup x=some k->k=.cell\/k=.free->(x,NameKind.free)∈names\/(x,NameKind.cell)∈names
 | [],x,k,h,_=>by simp at h
 | (n,q)::r,x,k,h,hk=>by
  simp only[B_]at h
  by_cases hc:(q==NameKind.free&&env.scope.kind==.function&&env.kindOf n==some .cell)=true
  .rw[i_ hc]at h;simp only[Sz]at h;cases e:x==n with
   | true=>
    have e':=eq_of_beq e;subst e';simp only[C_,TZ]at hc;exact .inl (by rw[hc.1.1];exact f_)
   | false=>
    rw[e]at h;rcases dE (scope:=scope) h hk with z | z
    .exact .inl (d_ _ z)
    .exact .inr (d_ _ z)
  .rw[j_ hc]at h;simp only[Sz]at h;cases e:x==n with
   | true=>
    rw[e]at h;have e':=eq_of_beq e;subst e';cases h;rcases hk with rfl | rfl
    .exact .inr f_
    .exact .inl f_
   | false=>
    rw[e]at h;rcases dE (scope:=scope) h hk with z | z
    .exact .inl (d_ _ z)
    .exact .inr (d_ _ z)
def cS(X:Cx)(scope:V7)(cl:VM)(Nc:VS)(C:V8)(s:V1)(H:Hp)(ex:VT)(pn:VI):Cx:=
 {X with N:=Nc,s₀:=s,H₀:=H,env:=compEnvC scope cl C X.env,outer:=X.stack,stack:=X.stack,ex:=ex,fn:=λ_=>false,pn:=pn,xe:=λ_ _=>False}
def ko(n:Nat)(caps:VW)(σ:L2.St):L2.St:=List.replicate n none++caps.map λj=>(σ[j]?).getD none
def bM(n:Nat)(caps:VW)(env:En):En:=List.replicate n .un++caps.map λj=>match env[j]? with | some (.F d)=>.F d | _=>.un
def g9(X:Cx)(scope:V7)(caps:VW):Bool:=caps.all λj=>match X.N[j]? with
 | some x=>(X.env.scope.names.lookup x==some .cell||X.env.scope.names.lookup x==some .free)&&scope.names.lookup x==some .free
 | none=>false
theorem fQ{env:Env}:∀{names:List (Str×NameKind)}{x:Str},names.lookup x=some .free->
  (names.map λ(n,k)=>if(k==NameKind.free&&env.scope.kind==.function&&env.kindOf n==some .cell)then(n,NameKind.cell)else(n,k)).lookup x=some .free\/
  (names.map λ(n,k)=>if(k==NameKind.free&&env.scope.kind==.function&&env.kindOf n==some .cell)then(n,NameKind.cell)else(n,k)).lookup x=some .cell
 | [],x,h=>by simp at h
 | (n,q)::r,x,h=>by
  simp only[B_];simp only[Sz]at h;cases e:x==n with
  | true=>
   rw[e]at h;cases h
   by_cases hc:(NameKind.free==NameKind.free&&env.scope.kind==.function&&env.kindOf n==some .cell)=true
   .rw[i_ hc];simp[Sz,e]
   .rw[j_ hc];simp[Sz,e]
  | false=>
   rw[e]at h
   by_cases hc:(q==NameKind.free&&env.scope.kind==.function&&env.kindOf n==some .cell)=true
   .rw[i_ hc];simp only[Sz,e];exact fQ h
   .rw[j_ hc];simp only[Sz,e];exact fQ h
section
variable {X:Cx}{pins:VI}{σ:L2.St}{H:Hp}{s:V1}{scope:V7}{cl:VM}{Nc own:VS}{caps:VW}{fp:VT}
theorem eg(I:Inv X pins σ H s)(h1:b≠X.env.locals)(h2:b∉X.fs):b∉rS X.stack:=λhb=>(o_.mp (I.stkSub b hb)).elim h1 h2
theorem mW{h1:V4}{tk:Nat}{m:VL}(I:Inv X pins σ H s)(fo:fE (λx=>X.env.cells.lookup x) scope.names []=some cl)(bE:scope.kind=.function)(hnc:∀y∈scope.names,y.2≠.cell)
  (hfp:∀b∈fp,bQ X pins H b) (hfl:∀b∈fp,b<s.sz) (hN:Nc.map some=own.map some++caps.map (λj=>X.N[j]?)) (fj:g9 X scope caps=true)
  (wg:h1.Ns s.sz m) (hk:∀b o,s.heap.get? b=some o->h1.get? b=some o) :
  Inv (cS X scope cl Nc s.sz s H fp (X.pn++pins)) [] (ko own.length caps σ) H {s with heap:=h1,toks:=tk}:=by
 have mem:=eu fo (λp hp=>by cases hp);have low:∀x c,cl.lookup x=some c->X.env.cells.lookup x=some c:=λx c h=>mem (x,c) (Sl h);have cellAt:∀x c,cl.lookup x=some c->c<s.sz:=λx c h=>by
  obtain⟨v,q⟩:=I.cell x c (low x c h);exact q.lt
 refine⟨⟨I.ok.mod,bE,I.ok.glob,I.ok.blt,l_ _,λx y c h1 h2=>I.ok.inj x y c (low x c h1) (low y c h2),λx hx=>?_,λx c hf _=>absurd (show false=true from hf) Sf,I.ok.hd,I.ok.frames,.inl rfl,λb hb=>⟨w_ (hfl b hb),λx c h=>(hfp b hb).2.2.2.2.1 x c (low x c h)⟩,
   I.bs,M_ I.ok.bsz I.sz,λb o e hb=>?_,λb hb hf=>eg I (hfp b hb).2.1 (hfp b hb).2.2.1 hf,I.stack,I.stkFree,I.tb⟩,
  rfl,I.bare,Un.kept hk,⟨m,wg,λi x v e1 e2 e3=>?_⟩,λx c h=>?_,I.hok.fresh (l_ _),λx c h=>I.freeC x c (low x c h),λp hp=>?_,I.hok.kept hk,?_⟩
 .have nF:(relabel scope X.env).names.lookup x=some .cell\/(relabel scope X.env).names.lookup x=some .free:=hx;have FS:(x,NameKind.free)∈scope.names:=by
   rcases nF with h | h
   .rcases dE (scope:=scope) h (.inl rfl)with z | z
    .exact z
    .exact absurd rfl (hnc _ z)
   .rcases dE (scope:=scope) h (.inr rfl)with z | z
    .exact z
    .exact absurd rfl (hnc _ z)
  obtain⟨c,hc⟩:=ft fo x (.inl FS);exact cJ hc
 .rcases(hfp b hb).2.2.2.1 with z | z
  .exact I.ok.noex b o e z
  .exact absurd (N_ (r_ e) (M_ I.ok.bsz z)) (T7 _)
 .have Kr:own.length<=i:=by
   by_cases hi:i<own.length
   .unfold ko at e2;rw[D_ (by simpa using hi),Sn,i_ hi]at e2;cases e2
   .lia
  unfold ko at e2;rw[q_ (by simpa using Kr),u_]at e2;simp only[Sy]at e2;cases hj:caps[i-own.length]? with
  | none=>rw[hj]at e2;cases e2
  | some j=>
   rw[hj]at e2;have uJ:(σ[j]?).getD none=some v:=Option.some.inj e2;have hσ:σ[j]?=some (some v):=by
    cases q:σ[j]? with
    | none=>rw[q]at uJ;cases uJ
    | some o=>rw[q]at uJ;exact S0 some uJ
   have hx:X.N[j]?=some x:=by
    have h1:(Nc.map some)[i]?=some (some x):=by rw[u_,show Nc[i]?=some x from e1];rfl
    rw[hN,q_ (by simpa using Kr),u_]at h1;simp only[c_]at h1;rw[hj]at h1;exact Option.some.inj h1
   have hc1:=P_.mp fj j (F_ hj);rw[hx]at hc1;simp only[C_,Ux,TZ]at hc1;obtain⟨hc1,r6⟩:=hc1;obtain⟨m0,hn0,JD⟩:=I.loc;obtain⟨u,ru,lk⟩:=JD j x v hx hσ (.inr hc1);refine⟨u,ru,.inr ?_⟩;have Pq:∃c,X.env.cells.lookup x=some c/\s.heap.IsCell c (some u):=by
    rcases lk with ⟨h1,_⟩ | ⟨_,c,h1,h2⟩
    .have JA:X.env.scope.names.lookup x=some .local:=h1;rcases hc1 with z | z<;>· rw[JA]at z;cases z
    .exact⟨c,h1,h2⟩
   obtain⟨c,Pr,Pu⟩:=Pq;obtain⟨c',hc'⟩:=ft fo x (.inl (Sl r6));obtain⟨Pv,CZ⟩:=cJ hc';have e4:=low x Pv CZ;rw[Pr]at e4;cases e4;refine⟨?_,c,CZ,?_⟩
   .rcases fQ (env:=X.env) r6 with z | z
    .exact .inr z
    .exact .inl z
   .obtain⟨o,ho,hd⟩:=Pu;exact⟨o,hk c o ho,hd⟩
 .obtain⟨v,o,ho,hd⟩:=I.cell x c (low x c h);exact⟨v,o,hk c o ho,hd⟩
 .have Pw:p∈X.pn++pins:=by simpa [cS]using hp
  obtain⟨h1,h2,h3,h4,h5⟩:=I.pin p Pw;exact⟨hk _ _ h1,h2,w_ (r_ h1),eg I h3 h4,h5⟩
 .have:=S0 List.length hN;simp only[c_,h_]at this;simp only[ko,h_,Sy,c_];exact this.symm
end
def cf(is:VW)(env:En):Bool:=is.all λi=>match env[i]? with | some .un=>true | _=>false
def dN(t:Ft)(c:Fb)(k:Wc)(env:En):Wf->We
 | []=>some []
 | d::ds=>(t d env).bind λe1=>(c e1).bind λb=>(if b=true then k e1 else some []).bind λxs=>(dN t c k env ds).bind λys=>some (xs++ys)
structure kI(is:List Nat)(t:Ft):Prop where
 len:∀{d:D}{env env':En},t d env=some env'->env'.length=env.length
 oth:∀{d:D}{env env':En},t d env=some env'->∀(j:Nat),j∉is->env'[j]?=env[j]?
 noO:∀{d:D}{env env':En},t d env=some env'->∀(j:Nat)(ds:ox),env'[j]?=some (.O ds)->env[j]?=some (.O ds)
theorem xj{env:En}{i:Nat}{d:D}{j:Nat}{ds:ox}(h:(env.set i (.F d))[j]?=some (.O ds)):env[j]?=some (.O ds):=by
 by_cases e:i=j
 .subst e
  by_cases hl:i<env.length
  .rw[A_ hl]at h;cases h
  .rw[So (by simpa using Ss hl)]at h;cases h
 .rw[n_ e]at h;exact h
theorem aN(i:Nat):kI [i] (aZ i):=⟨λh=>by cases h;simp,λh j hj=>by cases h;exact n_ (λz=>hj (by simp[z])),λh j ds hj=>by cases h;exact xj hj⟩
theorem iB:∀{is:VW}{ds:Wf}{env env':En},eo is ds env=some env'->env'.length=env.length/\(∀(j:Nat),j∉is->env'[j]?=env[j]?)/\∀(j:Nat)(es:ox),env'[j]?=some (.O es)->env[j]?=some (.O es)
 | [],[],env,env',h=>by cases h;exact⟨rfl,λ_ _=>rfl,λ_ _ h=>h⟩
 | i::is,d::ds,env,env',h=>by
  obtain⟨h1,h2,h3⟩:=iB (ds:=ds) h;refine⟨by simpa using h1,λj hj=>?_,λj es hj=>xj (h3 j es hj)⟩;rw[h2 j λz=>hj (d_ _ z)];exact n_ λz=>hj (by simp[z])
 | [],_::_,_,_,h=>by cases h
 | _::_,[],_,_,h=>by cases h
theorem qF(h:rT is d env=some env'):∃ds,eo is ds env=some env':=by
 cases d with
 | tup ds=>exact⟨ds,h⟩
 | _=>cases h
theorem ij(is:VW):kI is (rT is):=
 ⟨λh=>let ⟨_,q⟩:=qF h;(iB q).1,λh=>let ⟨_,q⟩:=qF h;(iB q).2.1,λh=>let ⟨_,q⟩:=qF h;(iB q).2.2⟩
theorem Rl.forget{K:Fg}{B Z H:Hp}{e1 env:En}{σ:L2.St}{is:VW}(R:Rl K B Z H e1 σ)(hl:e1.length=env.length)(ho:∀(j:Nat),j∉is->e1[j]?=env[j]?)(hu:cf is env=true):Rl K B Z H env σ:=by
 have key:∀(j:Nat) s,env[j]?=some s->s=.un\/e1[j]?=some s:=λj s h=>by
  by_cases hj:j∈is
  .have:=P_.mp hu j hj;rw[h]at this;cases s with
   | un=>exact .inl rfl
   | F d=>cases this
   | O ds=>cases this
   | A a=>cases this
  .exact .inr ((ho j hj).trans h)
 have JE:∀(j:Nat) ds,env[j]?=some (.O ds)->e1[j]?=some (.O ds):=λj ds h=>by
  rcases key j _ h with z | z
  .cases z
  .exact z
 refine⟨R.bh,R.zh,hl.symm.trans R.len,λj s h=>?_,λj ds a h=>R.ob j ds a (JE j ds h),λi j ds es a hne h1 h2=>R.ap i j ds es a hne (JE i ds h1) (JE j es h2)⟩;rcases key j s h with rfl | z
 .have hj:j < σ.length:=by rw[<- R.len,hl];exact(s_.mp h).1
  exact⟨σ[j],by simp[hj],trivial⟩
 .exact R.sl j s z
theorem Rl.other{K:Fg}{B Z H:Hp}{env:En}{σ:L2.St}{a:V8}{o:HO}(R:Rl K B Z H env σ)(hb:B a=none)(hz:Z a=none)(nO:∀(i:Nat) ds,env[i]?≠some (.O ds)):Rl K B Z (upd H a o) env σ:=
 ⟨bU R.bh hb,bU R.zh hz,R.len,λj s h=>by
  obtain⟨x,e,q⟩:=R.sl j s h;refine⟨x,e,?_⟩;cases s with
  | un=>trivial
  | F d=>exact q
  | O ds=>exact absurd h (nO j ds)
  | A a=>exact q,R.ob,R.ap⟩
abbrev Qv:=V8->Hp->Hp->Wf->Wh->Prop
def QT:Qv:=λ_ _ _ _ _=>True
structure N4(qv:Qv):Prop where
 nil:∀{a B H},qv a B H [] []
 mon:∀{a B H H' pre vs},(∀b o,b≠a->H b=some o->H' b=some o)->qv a B H pre vs->qv a B H' pre vs
 base:∀{a B B' H pre vs},aD B B'->qv a B' H pre vs->qv a B H pre vs
theorem HF:N4 QT:=⟨trivial,λ_ _=>trivial,λ_ _=>trivial⟩
abbrev Qa:=Hp->Hp->Hp->Wf->Prop
structure C'(a:Addr)(qa:Qa):Prop where
 ne:∀{B Z H pre},qa B Z H pre->H a≠none
 mon:∀{B Z H Z' H' pre},Ex Z H Z' H'->qa B Z H pre->qa B Z' H' pre
structure Ac(X:Cx)(qa:Qa)(pins:List (Addr×Obj))(a:Addr)(B Z H:Hp)(env:En)(σ:L2.St)(pre:List D)(s:Shared):Prop where
 I:Inv X pins σ H s
 R:Rl X.K B Z H env σ
 nO:∀(i:Nat) ds,env[i]?≠some (.O ds)
 hb:B a=none
 hz:Z a=none
 ac:qa B Z H pre
abbrev qL(K:Fg)(qv:Qv)(a:V8):Qa:=λB Z H pre=>∃vs,H a=some (.lst vs)/\ai K Z pre vs/\qv a B H pre vs
theorem Gq{K:Fg}{qv:Qv}{a:V8}(qo:N4 qv):C' a (qL K qv a):=⟨λ⟨vs,h,_⟩ z=>(by rw[z]at h;cases h),λx ⟨vs,h,r,q⟩=>⟨vs,x.h _ _ h,ai.mono x.z _ r,qo.mon (λb o _ h=>x.h b o h) q⟩⟩
abbrev OI(X:Cx)(qv:Qv)(pins:VI)(a:V8)(B Z H:Hp)(env:En)(σ:L2.St)(pre:Wf)(s:V1):Prop:=Ac X (qL X.K qv a) pins a B Z H env σ pre s
abbrev BdT:=(V1->Prop)->VH->V1->Prop
def u5(X:Cx)(qa:Qa)(a:V8)(Bd:BdT)(k:Wc):Prop:=∀(pins:VI)(s:V1)(σ:L2.St)(H B Z:Hp)(env:En)(pre xs:Wf)(P:V1->Prop)(E:VH),
 Ac X qa pins a B Z H env σ pre s->k env=some xs->pre.length+xs.length<=16000000->(∀s' σ' H' Z',Ac X qa pins a B Z' H' env σ' (pre++xs) s'->Ex Z B Z' H'->P s')->Bd P E s
abbrev Act(X:Cx)(qv:Qv)(a:V8)(Bd:BdT)(k:Wc):Prop:=u5 X (qL X.K qv a) a Bd k
def NO(X:Cx)(em:Sem Unit):BdT:=λP E s=>wpAny (model X.prog X.w) X.A em (λ_ s'=>P s') E s
structure Da(P:Program)(w:World)(ce:Expr):Prop where
 lp:∀{A:Around}{d:Nat}{it acc:Value}{env:Env}{Q:Fin->Shared->Prop}{E:Value->Shared->Prop}{s:Shared},wpAny (model P w) A ((compTurn ce d it acc env).onRaise (λx=>do noteFrame x env;theTreesLotGoes x)) Q E s->wpAny (model P w) (A.under (.compLoop ce d it acc env)) ((model P w).den (.compLoop ce d it acc env)) Q E s
 st:∀{A:Around}{d:Nat}{it acc:Value}{env:Env}{Q:Fin->Shared->Prop}{E:Value->Shared->Prop}{s:Shared},wpAny (model P w) A ((compStart ce d it acc env).onRaise (λx=>do noteFrame x env;standAt theWindowsPlace)) Q E s->wpAny (model P w) (A.under (.compStart ce d it acc env)) ((model P w).den (.compStart ce d it acc env)) Q E s
theorem Ov{P:V2}{w:V5}{elt:V9}{gens:VO}{scope:V7}{pos:Pos}:Da P w (.ListComp elt gens scope pos):=⟨λh=>h,λh=>h⟩
def Tw(X:Cx)(ce:V9)(d:Nat)(it:V8)(acc:V0)(tg:V9)(ifs:VU)(Bd:BdT):Prop:=∀(s:V1)(Q:Fin->V1->Prop)(E:VH),
   wpAny (model X.prog X.w) X.A (pyNext (.ref it)) (λr s1=>match r with
    | none=>Q (.done .next) s1
    | some v=>wpAny (model X.prog X.w) X.A (letOwnedTupleGo tg (.ref it) v) (λ_ s2=>wpAny (model X.prog X.w) X.A (assign tg X.env v) (λ_ s3=>
      wpAny (model X.prog X.w) X.A (forIn ifs true λc r=>if r=true then do let ok <- isTrue c X.env (eval c X.env);pure (ForInStep.yield ok)else pure (ForInStep.yield r)) (λok s4=>
       if ok=true then Bd (λs5=>Q (.again (.compLoop ce d (.ref it) acc X.env)) s5) E s4 else Q (.again (.compLoop ce d (.ref it) acc X.env)) s4) E s3) E s2) E s1) E s->
   wpAny (model X.prog X.w) X.A (compTurn ce d (.ref it) acc X.env) Q E s
section
variable {X:Cx}{a:V8}{elt:V9}{fe:Fe}
def ax(f:Fe):Wc:=λenv=>(f env).bind λd=>some [d]
abbrev Ia(X:Cx)(a:V8)(elt:V9):BdT:=NO X (do let _ <- call (.builtin "list.append") [.ref a,<- eval elt X.env])
theorem A0(hx:∀e s,¬X.xe e s)(h:PD X .cl elt fe):Act X QT a (Ia X a elt) (ax fe):=by
 intro pins s σ H B Z env pre xs P E A e hl hP;refine cT λ_ kq=>?_;obtain⟨d,e1,e2⟩:=a_.mp e;cases e2;obtain⟨vs,hv,rr,_⟩:=A.ac;refine kq (b_ (Sx (h pins s σ H _ A.I ⟨env,B,Z,d,A.R,e1,λv Z1 H1 x1 g1=>(show ∃Z1,Ex Z H Z1 H1/\Rep X.K Z1 d v from⟨Z1,x1,g1⟩)⟩) (λu s1 az=>?_) λe s z=>(hx e s z).elim))
 all_goals clear kq
 obtain⟨v,H1,I1,r1,Z1,x1,g1⟩:=az;have hne:H a≠none:=by rw[hv];simp
 refine b_ (Sx (iw pins s1 σ H1 (.ref a) [v] (.ref a) [u] (λy H2=>H2=upd H1 a (.lst (vs++[v]))) I1 rfl (.cons r1 .nil) ⟨a,vs,v,rfl,rfl,x1.h _ _ hv,by rw[<- rr.len,Sr];simp at hl;lia,rfl⟩) (λw s2 az=>?_) λe s z=>(hx e s z).elim);obtain⟨y,H2,I2,r2,q⟩:=az;subst q;have hz1:=x1.fr a hne A.hz;have R1:=A.R.ext x1;refine g_ (hP s2 σ _ Z1 ⟨I2,R1.other A.hb hz1 A.nO,A.nO,A.hb,hz1,vs++[v],av,(ai.mono x1.z pre rr).app (ai.one g1),trivial⟩ ?_);exact⟨bU R1.bh A.hb,x1.z,bU R1.zh hz1,λb hb e=>x1.fr b (fY A.R.bh hb) e,x1.nf⟩
def BJ(X:Cx)(ifs:VU)(c:Fb):Prop:=∀(pins:VI)(s:V1)(σ:L2.St)(H:Hp)(Q:Bool->Hp->Prop)(E:VH),Inv X pins σ H s->TB X.K c σ H Q->
 wpAny (model X.prog X.w) X.A (forIn ifs true λc r=>if r=true then do let ok <- isTrue c X.env (eval c X.env);pure (ForInStep.yield ok)else pure (ForInStep.yield r)) (TP X pins σ Q) E s
theorem aO:BJ X [] Wl:=λpins s σ H Q E I az=>by
 obtain⟨env,B,Z,b,R,e,k⟩:=az;cases e;exact wpAny_tests_nil ⟨H,I,k Z H (Ex.refl R.zh)⟩
theorem dR(hx:∀e s,¬X.xe e s)(h:PB X c f):BJ X [c] f:=λpins s σ H Q E I q=>
 wpAny_tests_one (Sx (h pins s σ H Q I q) (λ_ _ z=>z) λe s z=>(hx e s z).elim)
theorem iu{ce:V9}{qa:Qa}(co:Da X.prog X.w ce)(qo:C' a qa)
  (hx:∀e s,¬X.xe e s) (bq:X.calm=true) (T:Turn X.prog X.w X.K tg J fp it tn) (hg:GD X tg t) (ht:kI is t) (zK:BJ X ifs c) (kJ:u5 X qa a Bd k)
  (zL:Tw X ce dd it acc tg ifs Bd) (A:Ac X qa pins a B Z H env σ pre s) (hfp:∀b∈fp,bQ X pins H b) (htn:tn 0 s.heap) (hw:Walk X.K Z ds J) (hu:cf is env=true)
  (uS:dN t c k env ds=some xs) (hl:pre.length+xs.length<=16000000) (hR:∀s' σ' H' Z',Ac X qa pins a B Z' H' env σ' (pre++xs) s'->Ex Z B Z' H'->(∀b∈fp,H' b=none)->R (.ok .next) s') :
  codeAny (model X.prog X.w) X.A (.compLoop ce dd (.ref it) acc X.env) R s:=by
 have we:∀{H':Hp},(∀b∈fp,H' b=none)->∀b∈fp,bQ X pins H' b:=λhn b hb=>⟨hn b hb,(hfp b hb).2⟩;refine codeAny_loop rfl (λn s'=>∃i σ' H' Z' pre' rest,Ac X qa pins a B Z' H' env σ' pre' s'/\tn i s'.heap/\(∀b∈fp,H' b=none)/\n=ds.length-i/\i<=ds.length/\Ex Z B Z' H'/\dN t c k env (ds.drop i)=some rest/\pre'++rest=pre++xs)
  (λn s1 hI=>?_) ds.length ⟨0,σ,H,Z,pre,xs,A,htn,λb hb=>(hfp b hb).1,by simp,Ts _,⟨A.R.bh,aD.refl _,A.R.zh,λ_ _ h=>h,λ_ _ _ h=>h⟩,by simpa using uS,rfl⟩
 obtain⟨i,σ1,H1,Z1,FT,rest,A1,Rj,Px,rfl,hi,x1,zM,ou⟩:=hI;refine co.lp (wpAny_noted (zL s1 _ _ ?_));obtain⟨w1,w2⟩:=hw Z1 H1 x1.z A1.R.zh i
 by_cases fg:i<ds.length
 .obtain⟨go,yl⟩:=w1 fg;refine bB (T.item X rfl rfl rfl bq i pins s1 σ1 H1 _ A1.I (we Px) Rj go) λr s2 az=>?_;obtain⟨u,hr,h2⟩:=az;subst hr;refine bB h2 λ_ s3 az=>?_;refine cT λ_ kq=>?_;obtain⟨x,H3,I3,r3,y3,Py,N0⟩:=az;obtain⟨Z3,d,x3,hd,rep3⟩:=yl x H3 y3;have MV:ds.drop i=d::ds.drop (i+1):=by
   obtain⟨h1,h2⟩:=s_.mp hd;rw[Tq h1,h2]
  rw[MV]at zM;unfold dN at zM;obtain⟨e1,g1,zM⟩:=a_.mp zM;obtain⟨b,g2,zM⟩:=a_.mp zM;obtain⟨ys,g3,zM⟩:=a_.mp zM;obtain⟨zs,g4,zM⟩:=a_.mp zM;cases zM;have I3':=I3.pinned (we N0) (T.obj _ _ Py);have hne:=qo.ne A1.ac;have R3:=A1.R.ext x3;refine kq (Sx (hg _ s3 σ1 H3 x u (λσ4 H4=>∃Z4,Ex Z3 H3 Z4 H4/\Rl X.K B Z4 H4 e1 σ4) I3' r3 ⟨env,B,Z3,d,e1,R3,rep3,g1,λσ4 Z4 H4 x4 R4=>⟨Z4,x4,R4⟩⟩) (λ_ s4 az=>?_) λe s z=>(hx e s z).elim)
  all_goals clear kq
  obtain⟨σ4,H4,I4,Z4,x4,R4⟩:=az;have x34:=x3.trans x4;have GQ:∀(s7:V1)(σ7:L2.St)(H7 Z7:Hp)(FU:Wf),Ac X qa (pins++kc fp s3.heap) a B Z7 H7 e1 σ7 FU s7->Ex Z B Z7 H7->FU++zs=pre++xs->
    ∃m,m<ds.length-i/\∃i σ' H' Z' pre' rest,Ac X qa pins a B Z' H' env σ' pre' s7/\tn i s7.heap/\(∀b∈fp,H' b=none)/\m=ds.length-i/\i<=ds.length/\Ex Z B Z' H'/\dN t c k env (ds.drop i)=some rest/\pre'++rest=pre++xs:=by
   intro s7 σ7 H7 Z7 FU A7 x7 h7;have MY:∀b∈fp,∀o,s3.heap.get? b=some o->s7.heap.get? b=some o/\H7 b=none:=λb hb o e=>
    let q:=A7.I.pin (b,o) (y_ _ (y_ _ (jh hb e)))
    ⟨q.1,q.2.1⟩
   refine⟨ds.length-(i+1),by lia,i+1,σ7,H7,Z7,FU,zs,⟨A7.I.unpinned,A7.R.forget (ht.len g1) (ht.oth g1) hu,A1.nO,A7.hb,A7.hz,A7.ac⟩,T.keep _ _ _ Py λb hb o e=>(MY b hb o e).1,λb hb=>?_,rfl,fg,x7,g4,h7⟩;obtain⟨o,e,_⟩:=T.obj _ _ Py b hb;exact(MY b hb o e).2
  refine bB (zK _ s4 σ4 H4 (λb' H5=>b'=b/\∃Z5,Ex Z4 H4 Z5 H5) _ I4 ⟨e1,B,Z4,b,R4,g2,λZ5 H5 x5=>⟨rfl,Z5,x5⟩⟩) λok s5 az=>?_;obtain⟨H5,I5,hok,Z5,x5⟩:=az;subst hok;have hne4:H4 a≠none:=fY x34.h hne;have hz5:=x5.fr a hne4 (x34.fr a hne A1.hz);have x35:=x34.trans x5;have A5:Ac X qa (pins++kc fp s3.heap) a B Z5 H5 e1 σ4 FT s5:=⟨I5,R4.ext x5,λj es h=>A1.nO j es (ht.noO g1 j es h),A1.hb,hz5,qo.mon x35 A1.ac⟩;have xB:Ex Z B Z5 H5:=x1.transB (x35.part A1.R.bh);cases ok with
  | false=>
   rw[j_ (by simp)]at g3;cases g3;rw[j_ (by simp)];exact⟨rfl,GQ s5 σ4 H5 Z5 FT A5 xB (by simpa using ou)⟩
  | true=>
   rw[i_ rfl]at g3;rw[i_ rfl];have hlen:=S0 List.length ou;simp only[h_]at hlen;exact kJ _ s5 σ4 H5 B Z5 e1 FT ys _ _ A5 g3 (by lia) λs7 σ7 H7 Z7 A7 x7=>⟨rfl,GQ s7 σ7 H7 Z7 (FT++ys) A7 (xB.transB x7) (by rw[Su];exact ou)⟩
 .have hii:i=ds.length:=by lia
  subst hii;rw[UK (by lia)]at zM;cases zM;rw[G_]at ou;refine bB (T.done X rfl rfl rfl bq _ pins s1 σ1 H1 _ A1.I (we Px) Rj (w2 (l_ _))) λr s2 az=>?_;obtain⟨hr,I2⟩:=az;subst hr;exact hR s2 σ1 H1 Z1 ⟨I2,A1.R,A1.nO,A1.hb,A1.hz,by rw[<- ou];exact A1.ac⟩ x1 Px
end
section
variable {P:V2}{w:V5}{A:V3}{elt:V9}{gens:VO}{scope:V7}{pos:Pos}{d:Nat}{tg iter:V9}{ifs:VU}{it acc:V0}{env:Env}{R:Result->V1->Prop}{s:V1}
theorem lJ{ce:V9}(co:Da P w ce)(hc:(clausesOf ce)[d]?=some ⟨tg,iter,ifs,0⟩)(h0:codeAny (model P w) A (.compLoop ce d it acc env) R s)
    (h1:wpAny (model P w) A (pyIter it) (λPz s'=>codeAny (model P w) A (.compLoop ce d Pz acc env) R s') (notedBy (model P w) A env λx s'=>R (.error x) s') s) :
    codeAny (model P w) A (.compStart ce d it acc env) R s:=by
  refine codeAny_of_tree (co.st (wpAny_notedAt ?_));unfold compStart;rw[hc];show wpAny (model P w) A (ask >>= _) _ _ s;refine b_ (wpAny_askSetting (wpAny_ite ?_))<;>skip
  split
  . first
      | exact b_ (g_ (g_ ⟨rfl,h0⟩))
      | exact g_ ⟨rfl,h0⟩
  . refine b_ (Vb ?_)
    first
      | exact b_ (SI (b_ (Sx h1 (λPz s' q=>g_ ⟨rfl,q⟩) λ_ _ x=>x)))
      | (show wpAny (model P w) A (standAt iter.pos >>= _) _ _ s
         exact b_ (SI (b_ (Sx h1 (λPz s' q=>g_ ⟨rfl,q⟩) λ_ _ x=>x))))
end
section
variable {X:Cx}{a:V8}{elt:V9}{gens:VO}{scope:V7}{pos:Pos}{d:Nat}{tg iter uI bT:V9}{ifs jP:VU}{it:V8}
theorem qk{ce:V9}{em:Sem Unit}(ht:compTurn ce d (.ref it) (.ref a) X.env=wC ce tg iter ifs d (.ref it) (.ref a) X.env em):Tw X ce d it (.ref a) tg ifs (NO X em):=by
 intro s Q E hw;rw[ht];unfold wC;refine b_ (SI (b_ (bB hw λr s1 q1=>?_)));cases r with
 | none=>exact g_ q1
 | some v=>
  refine b_ (bB q1 λ_ s2 q2=>b_ (bB q2 λ_ s3 q3=>b_ (bB q3 λok s4 q4=>?_)));cases ok with
  | false=>exact g_ (show Q (.again (.compLoop ce d (.ref it) (.ref a) X.env)) s4 from by rw[j_ (by simp)]at q4;exact q4)
  | true=>
   rw[i_ rfl]at q4;exact b_ (bB q4 λ_ s5 q5=>g_ q5)
def AX(X:Cx)(a:V8)(ce:V9)(d:Nat)(bT:V9):BdT:=λP E s=>
 wpAny (model X.prog X.w) X.A (eval bT X.env) (λx s5=>wpAny (model X.prog X.w) X.A (pyIter x) (λi' s6=>
  codeAny (model X.prog X.w) X.A (.compStart ce (d+1) i' (.ref a) X.env) (λr s7=>match r with | .ok _=>P s7 | .error e=>cameBackBy (model X.prog X.w) X.A X.env E e s7) s6) E s5) E s
theorem xl{ce:V9}(ht:compTurn ce d (.ref it) (.ref a) X.env=wZ ce tg iter bT ifs d (.ref it) (.ref a) X.env)(hs:∀x,foldedSetIterable bT X.env x=pure x):Tw X ce d it (.ref a) tg ifs (AX X a ce d bT):=by
 intro s Q E hw;rw[ht];unfold wZ;refine b_ (SI (b_ (bB hw λr s1 q1=>?_)));cases r with
 | none=>exact g_ q1
 | some v=>
  refine b_ (bB q1 λ_ s2 q2=>b_ (bB q2 λ_ s3 q3=>b_ (bB q3 λok s4 q4=>?_)));cases ok with
  | false=>exact g_ (show Q (.again (.compLoop ce d (.ref it) (.ref a) X.env)) s4 from by rw[j_ (by simp)]at q4;exact q4)
  | true=>
   rw[i_ rfl]at q4;refine b_ (bB q4 λx s5 q5=>b_ (SI (b_ (UE (hs x) (b_ (L_ (bB q5 λi' s6 q6=>?_)))))));refine b_ (wpAny_runOwn (Uj q6 λr s7 q7=>?_));cases r with
   | ok f=>exact g_ q7
   | error e=>exact q7
def dH(fi:Fi)(is:VW)(t:Ft)(c:Fb)(k:Wc):Wc:=λenv=>(fi env).bind λds=>if cf is env=true then dN t c k env ds else none
theorem uD{ce:V9}{qa:Qa}(co:Da X.prog X.w ce)(qo:C' a qa)(hx:∀e s,¬X.xe e s)(bq:X.calm=true)(h2:(clausesOf ce)[d+1]?=some ⟨uI,bT,jP,0⟩)
  (hi:ID X uI bT fi) (hg:GD X uI t) (ht:kI is t) (zK:BJ X jP c) (kJ:u5 X qa a Bd k)
  (zL:∀it,Tw X ce (d+1) it (.ref a) uI jP Bd) :
  u5 X qa a (AX X a ce d bT) (dH fi is t c k):=by
 intro pins s σ H B Z env pre xs P E Aq e hl hP;obtain⟨ds,e1,e2⟩:=a_.mp e;have hu:cf is env=true:=by
  by_cases hu:cf is env=true
  .exact hu
  .rw[j_ hu]at e2;cases e2
 rw[i_ hu]at e2;refine Sx (hi pins s σ H (λJ H1=>∃Z1,Ex Z H Z1 H1/\Walk X.K Z1 ds J) Aq.I ⟨env,B,Z,ds,Aq.R,e1,λJ Z1 H1 x1 wk=>⟨Z1,x1,wk⟩⟩) (λx s5 q5=>?_) λe s z=>(hx e s z).elim;refine Sx q5 (λi' s6 az=>?_) λe s z=>(hx e s z).elim;obtain⟨it,fp,tn,J,H6,hit,I6,T,Rk,fp6,Z6,x6,wk⟩:=az;subst hit;have A6:Ac X qa pins a B Z6 H6 env σ pre s6:=⟨I6,Aq.R.ext x6,Aq.nO,Aq.hb,x6.fr a (qo.ne Aq.ac) Aq.hz,qo.mon x6 Aq.ac⟩;have go:=iu co qo (a:=a) hx bq T hg ht zK kJ (zL it) A6 fp6 Rk wk hu e2 hl
  (R:=λr s7=>match r with | .ok _=>P s7 | .error e=>cameBackBy (model X.prog X.w) X.A X.env E e s7)
  λs' σ' H' Z' A' x' _=>hP s' σ' H' Z' A' ((x6.part Aq.R.bh).transB x')
 exact lJ co h2 go (T.self _ 0 _ _ _ Rk go)
end
structure JF(X:Cx)(qa:Qa)(a:Addr)(ce:Expr)(d:Nat)(tg:Expr)(ifs:List Expr)(t:Ft)(c:Fb)(k:En->Option (List D)):Prop where
 g:GD X tg t
 ts:BJ X ifs c
 ex:∃Bd,u5 X qa a Bd k/\∀it,Tw X ce d it (.ref a) tg ifs Bd
abbrev Hq(X:Cx)(qv:Qv)(a:V8)(elt:V9)(gens:VO)(scope:V7)(pos:Pos)(d:Nat)(tg:V9)(ifs:VU)(t:Ft)(c:Fb)(k:Wc):Prop:=JF X (qL X.K qv a) a (.ListComp elt gens scope pos) d tg ifs t c k
section
variable {X:Cx}{a:V8}{elt:V9}{gens:VO}{scope:V7}{pos:Pos}{d:Nat}{tg iter uI bT:V9}{ifs jP:VU}{t t':Ft}{c c':Fb}{k:Wc}{fe:Fe}{fi:Fi}{is:VW}{qv:Qv}
theorem aB(hx:∀e s,¬X.xe e s)(hg:GD X tg t)(zK:BJ X ifs c)(he:PD X .cl elt fe)(h:gens[d]?=some ⟨tg,iter,ifs,0⟩:=by rfl)(h2:gens[d+1]?=none:=by rfl):Hq X QT a elt gens scope pos d tg ifs t c (ax fe):=
 ⟨hg,zK,_,A0 hx he,λ_=>qk (ym h h2)⟩
theorem fy(hx:∀e s,¬X.xe e s)(bq:X.calm=true)(hg:GD X tg t)(zK:BJ X ifs c)(hi:ID X uI bT fi)(ht:kI is t')(b:Hq X QT a elt gens scope pos (d+1) uI jP t' c' k)
  (h:gens[d]?=some ⟨tg,iter,ifs,0⟩:=by rfl) (h2:gens[d+1]?=some ⟨uI,bT,jP,0⟩:=by rfl) (hs:∀x,foldedSetIterable bT X.env x=pure x:=by intro _;rfl):Hq X QT a elt gens scope pos d tg ifs t c (dH fi is t' c' k):=by
 obtain⟨Bd,kJ,zL⟩:=b.ex;exact⟨hg,zK,_,uD Ov (Gq HF) hx bq h2 hi b.g ht b.ts kJ zL,λ_=>xl (yg h h2) hs⟩
end
def aG(fi:Fi)(is:VW)(t:Ft)(c:Fb)(k:Wc)(n:Nat)(caps:VW):Fe:=λenv=>(fi env).bind λds=>if cf is (bM n caps env)=true then(dN t c k (bM n caps env) ds).bind λxs=>if xs.length<=16000000 then some (.lst xs)else none else none
theorem ni(h:aG fi is t c k n caps env=some d) :
  ∃ds xs,fi env=some ds/\cf is (bM n caps env)=true/\dN t c k (bM n caps env) ds=some xs/\xs.length<=16000000/\d=.lst xs:=by
 obtain⟨ds,e1,e2⟩:=a_.mp h
 by_cases hu:cf is (bM n caps env)=true
 .rw[i_ hu]at e2;refine cT λ_ kq=>?_;obtain⟨xs,e3,e4⟩:=a_.mp e2;obtain⟨e5,e6⟩:=rh e4;exact kq (⟨ds,xs,e1,hu,e3,e5,e6.symm⟩)
 .rw[j_ hu]at e2;cases e2
theorem gQ(n:Nat)(caps:VW)(env:En):∀(i:Nat) ds,(bM n caps env)[i]?≠some (.O ds):=λi ds h=>by
 unfold bM at h
 by_cases hi:i<n
 .rw[D_ (by simpa using hi),Sn,i_ hi]at h;cases h
 .rw[q_ (by simpa using hi),u_]at h;cases q:caps[i-(List.replicate n Slot.un).length]? with
  | none=>rw[q]at h;cases h
  | some j=>
   rw[q]at h;simp only[Option.map_some,Option.some.injEq]at h
   split at h<;>cases h
theorem Rl.cap{K:Fg}{B Z H H':Hp}{env:En}{σ:L2.St}(R:Rl K B Z H env σ)(n:Nat)(caps:VW)(s1:aD H H')(s2:aD Z H'):Rl K H Z H' (bM n caps env) (ko n caps σ):=by
 refine⟨s1,s2,by simp[bM,ko],λi s h=>?_,λi ds a h=>absurd h (gQ n caps env i ds),λi j ds es a _ h=>absurd h (gQ n caps env i ds)⟩;unfold bM at h;unfold ko
 by_cases hi:i<n
 .rw[D_ (by simpa using hi),Sn,i_ hi]at h ⊢;cases h;exact⟨none,rfl,trivial⟩
 .rw[q_ (by simpa using hi),u_]at h ⊢;simp only[Sy]at h ⊢;cases q:caps[i-n]? with
  | none=>rw[q]at h;cases h
  | some j=>
   rw[q]at h;simp only[Option.map_some,Option.some.injEq]at h ⊢;refine⟨_,rfl,?_⟩
   split at h
   .rename_i dd hj;subst h;obtain⟨x,h1,v,h2,r⟩:=R.sl j _ hj;rw[h1,h2];exact⟨v,rfl,r⟩
   .subst h;trivial
section
variable {X:Cx}{elt:V9}{rest:VO}{scope:V7}{pos:Pos}{tg iter:V9}{ifs:VU}{t:Ft}{c:Fb}{k:Wc}{fi:Fi}{is caps:VW}{cl:VM}{Nc own:VS}
theorem oQ{qv:Qv}(qo:N4 qv)(ht:kI is t)(bq:X.calm=true)(fo:fE (λx=>X.env.cells.lookup x) scope.names []=some cl)(bE:scope.kind=.function)(hnc:∀y∈scope.names,y.2≠.cell)
  (hN:Nc.map some=own.map some++caps.map (λj=>X.N[j]?)) (fj:g9 X scope caps=true)
  (hb:∀C s H ex pn a,Hq (cS X scope cl Nc C s H ex pn) qv a elt (⟨tg,iter,ifs,0⟩::rest) scope pos 0 tg ifs t c k)
  {pins:VI} {σ:L2.St} {s2:V1} {H2 B Z2:Hp} {env:En} {ds xs:Wf} {E:VH} {RR:V0->V8->Result->V1->Prop} {it:V8} {fp:VT} {tn:Nat->V4->Prop} {J:It}
  (I2:Inv X pins σ H2 s2) (R2:Rl X.K B Z2 H2 env σ) (T:Turn X.prog X.w X.K tg J fp it tn) (uT:tn 0 s2.heap) (jR:∀b∈fp,bQ X pins H2 b) (wk:Walk X.K Z2 ds J) (hu:cf is (bM own.length caps env)=true)
  (uS:dN t c k (bM own.length caps env) ds=some xs) (hl:xs.length<=16000000)
  (MZ:∀a C H' Z' s' vs m,Inv X pins σ H' s'->s'.heap.Ns C m->bQ X pins H' C->Ex Z2 H2 Z' H'->H2 a=none->H' a=some (.lst vs)->Z' a=none->ai X.K Z' xs vs->qv a H2 H' xs vs->RR (.ref a) C (.ok .next) s') :
  wpAny (model X.prog X.w) X.A (newList []) (λacc s₃=>wpAny (model X.prog X.w) X.A (newFunctionEnv scope X.env.globals cl [] X.env.qual none .none (some X.env)) (λDc s₄=>
   codeAny (model X.prog X.w) X.A (.compStart (.ListComp elt (⟨tg,iter,ifs,0⟩::rest) scope pos) 0 (.ref it) acc {Dc with scope:=relabel scope X.env}) (RR acc Dc.locals) s₄) E s₃) E s2:=by
 refine SH ?_ (by size_fits);have hf:H2 s2.sz=none:=I2.hok.fresh (l_ _);have I3:Inv X pins σ (upd H2 s2.sz (.lst [])) {s2 with heap:=s2.heap.push {cls:=.type "list",dict:=none,data:=.seq ([]:VP).toArray}}:=
  I2.laid (λb u e=>e_ _ e) (l_ _) (show bp X.prog X.w _ _ _ (.lst [])from⟨by simp,[],0,.nil,p_ _ rfl⟩)
 generalize zN:({s2 with heap:=s2.heap.push {cls:=.type "list",dict:=none,data:=.seq ([]:VP).toArray}}:V1)=s3 at I3 ⊢;have GR:∀b o,s2.heap.get? b=some o->s3.heap.get? b=some o:=λb o e=>by rw[<- zN];exact e_ _ e
 have GS:s3.sz=s2.sz+1:=by rw[<- zN];exact Ti _ _
 have hfl:∀b∈fp,b<s2.sz:=λb hb=>let ⟨o,e,_⟩:=T.obj _ _ uT b hb;r_ e;have GT:∀b∈fp,bQ X pins (upd H2 s2.sz (.lst [])) b:=λb hb=>⟨by rw[au (w_ (hfl b hb))];exact(jR b hb).1,(jR b hb).2⟩;refine Ue hnc (by intro y hy;simp at hy) (λh1 wg hsb=>?_) bE;have GU:∀b o,s3.heap.get? b=some o->h1.get? b=some o:=λb o e=>hsb.extBut b o (w_ (r_ e)) (e_ _ e);have I4:=mW (tk:=s3.toks+([]:List (Str×V0)).length) I3 fo bE hnc GT (λb hb=>by rw[GS];exact SO (hfl b hb)) hN fj wg GU;generalize hXc:cS X scope cl Nc s3.sz s3 (upd H2 s2.sz (.lst [])) fp (X.pn++pins)=Xc at I4;have bb:Hq Xc qv s2.sz elt (⟨tg,iter,ifs,0⟩::rest) scope pos 0 tg ifs t c k:=by rw[<- hXc];exact hb _ _ _ _ _ _
 obtain⟨Bd,kJ,zL⟩:=bb.ex;have eP:Xc.prog=X.prog:=by rw[<- hXc];rfl
 have eW:Xc.w=X.w:=by rw[<- hXc];rfl
 have eK:Xc.K=X.K:=by rw[<- hXc];rfl
 have eA:Xc.A=X.A:=by rw[<- hXc];rfl
 have eE:Xc.env=compEnvC scope cl s3.sz X.env:=by rw[<- hXc];rfl
 have hx:∀e s,¬Xc.xe e s:=λe s z=>by rw[<- hXc]at z;exact z
 have zQ:Xc.calm=true:=by rw[<- hXc];exact bq
 have T':Turn Xc.prog Xc.w Xc.K tg J fp it tn:=by rw[eP,eW,eK];exact T
 have A4:OI Xc qv [] s2.sz H2 Z2 (upd H2 s2.sz (.lst [])) (bM own.length caps env) (ko own.length caps σ) [] {s3 with heap:=h1,toks:=s3.toks+([]:List (Str×V0)).length}:=
  ⟨I4,by rw[eK];exact R2.cap _ _ (dj hf) (bU R2.zh (R2.zh.free hf)),gQ _ _ _,hf,R2.zh.free hf,[],av,rfl,qo.nil⟩
 have M0:∀b∈fp,bQ Xc [] (upd H2 s2.sz (.lst [])) b:=λb hb=>by
  obtain⟨f1,f2,f3,f4,f5,f6⟩:=GT b hb;have mem:=eu fo (λp hp=>by cases hp);rw[<- hXc];refine⟨f1,?_,eg I3 f2 f3,.inl hb,λx c h=>f5 x c (mem (x,c) (Sl h)),λp hp=>f6 p (by simpa [cS]using hp)⟩;show b≠s3.sz;rw[GS];exact w_ (SO (hfl b hb))
 have GV:tn 0 ({s3 with heap:=h1,toks:=s3.toks+([]:List (Str×V0)).length}:V1).heap:=T.keep _ _ _ uT λb _ o e=>GU b o (GR b o e);have go:=iu Ov (Gq qo) hx zQ T' bb.g ht bb.ts kJ (zL it) A4 M0 GV (by rw[eK];exact wk) hu uS (by simpa using hl) λs' σ' H' Z' A' x' fr'=>by
  obtain⟨vs,hv,rr,qq⟩:=A'.ac;have base:=A'.I.base;obtain⟨mC,GW,_⟩:=A'.I.loc;have hok:=A'.I.hok;have hos:=A'.I.os;have free:=A'.I.free;rw[eE]at GW free;rw[eP,eW]at hok;rw[eK]at rr;have u1:Un (rS X.stack) fp H2 (upd H2 s2.sz (.lst [])) s2.heap s3.heap:=Un.laid GR (l_ _) hf;have u2:Un (rS X.stack) fp (upd H2 s2.sz (.lst [])) H' s3.heap s'.heap:=by rw[<- hXc]at base;exact base
  have Dd:s'.os=s2.os:=by rw[<- hXc]at hos;exact hos.trans (by rw[<- zN];rfl)
  have I':Inv X pins σ H' s':=I2.call' Dd (u1.trans u2) hok A'.I.bare λb hb=>⟨(jR b hb).2.2.2.1,(jR b hb).2.1,(jR b hb).2.2.2.2.1,(jR b hb).2.2.2.2.2⟩;exact MZ s2.sz s3.sz H' Z' s' vs mC I' GW (I3.fpOk (l_ _) free) x' hf hv A'.hz (by simpa using rr) (by simpa using qq)
 rw[eP,eW,eA,eE]at go;exact lJ Ov rfl go (T.self _ 0 _ _ _ GV go)
theorem a8(ht:kI is t)(bq:X.calm=true)(hi:ID X tg iter fi)(fo:fE (λx=>X.env.cells.lookup x) scope.names []=some cl)(hN:Nc.map some=own.map some++caps.map (λj=>X.N[j]?))
  (hb:∀C s H ex pn a,Hq (cS X scope cl Nc C s H ex pn) QT a elt (⟨tg,iter,ifs,0⟩::rest) scope pos 0 tg ifs t c k)
  (fj:g9 X scope caps=true:=by rfl) (bE:scope.kind=.function:=by rfl) (hnc:∀y∈scope.names,y.2≠.cell:=by decide +kernel) (JG:∀x∈scope.names,x.2=.local->scope.names.lookup x.1=some .local:=by decide +kernel)
  (hs:∀x,foldedSetIterable iter X.env x=pure x:=by intro _;rfl) :
  PD X .nw (.ListComp elt (⟨tg,iter,ifs,0⟩::rest) scope pos) (aG fi is t c k own.length caps):=by
 intro pins s σ H Q I hT;obtain⟨env,B,Z,d,R,e,kk⟩:=hT;obtain⟨ds,xs,e1,hu,uS,hl,rfl⟩:=ni e;rw[eval_ListComp];refine TF rfl hs (ej fo) bE JG ?_;refine bB (hi pins s σ H (λJ H1=>∃Z1,Ex Z H Z1 H1/\Walk X.K Z1 ds J) I ⟨env,B,Z,ds,R,e1,λJ Z1 H1 x1 wk=>⟨Z1,x1,wk⟩⟩) λx s1 q1=>bB q1 λKo s2 az=>?_;obtain⟨it,fp,tn,J,H2,hit,I2,T,uT,jR,Z2,x2,wk⟩:=az;subst hit;refine oQ HF ht bq fo bE hnc hN fj hb I2 (R.ext x2) T uT jR wk hu uS hl λa C H' Z' s' vs m I' ns fpC x' hf hv hz rr _=>?_;refine⟨m,ns,λh' hs'=>?_⟩;obtain⟨f1,f2,f3,f4,f5,f6⟩:=fpC;refine⟨.ref a,H',I'.turned (λb o hb e=>hs'.extBut b o hb e) f1 f2.symm.symm f4 f5 f6,rfl,kk _ Z' H' (x2.trans x') ⟨a,vs,xs,rfl,rfl,x2.h.free hf,hv,hz,rr⟩⟩
end
section
variable {P:V2}{w:V5}{A:V3}{E:VH}
theorem GB(hne:l≠it):∀(n i:Nat)(s:V1)(Q:VP->V1->Prop),s.heap.IsListIter it l i->s.heap.IsList l items->i+n<=items.size->
  (∀h',h'.IsListIter it l (i+n)->Heap.SameBut it s.heap h'->Q ((items.toList.drop i).take n) {s with heap:=h'})->wpAny (model P w) A (draw (.ref it) n) Q E s:=by
 intro n
 induction n with
 | zero=>intro i s Q hit hl hle hQ;exact g_ (show Q [] s from by simpa using hQ s.heap (by simpa using hit) (Heap.SameBut.refl ..))
 | succ n ih=>
  intro i s Q hit hl hle hQ;have fg:i<items.size:=by lia
  refine(show wpAny (model P w) A (pyNext (.ref it) >>= _) Q E s from b_ (UI hit hl (x:=items[i]) (by simp[fg]) λh1 JH hs1=>?_));refine b_ (L_ (ih (i+1) _ _ JH (hl.extBut hs1.extBut hne) (by lia) λh2 JI Kp=>g_ ?_));have q:=hQ h2 (by rw[show i+(n+1)=i+1+n by lia];exact JI) (hs1.trans Kp);have hd:items.toList.drop i=items[i]::items.toList.drop (i+1):=by simp[Tq,fg]
  rw[hd,List.take_succ_cons]at q;exact q
theorem EX(hh:A.handled=none)(hl:s.heap.IsList l items)(hQ:∀h',Heap.ExtBut s.sz s.heap h'->Q items.toList {s with heap:=h'}) :
  wpAny (model P w) A (unpackItems (.ref l) items.size none) Q E s:=by
 have fg:l≠s.sz:=by obtain⟨o,ho,_⟩:=hl;exact w_ (r_ ho)
 unfold unpackItems;refine b_ ?_
 .unfold notIterableAtAll;refine b_ (T6 hl.typeIs PySem.slot_list_iter.lookup (g_ ?_));simp only[J_,SA];have hl1:(s.heap.push {cls:=.type "list_iterator",data:=.fields #[.ref l,rawInt 0]}).IsList l items:=by obtain⟨o,ho,r⟩:=hl;exact⟨o,e_ _ ho,r⟩
  refine b_ (L_ (Tv hl (b_ (L_ (GB fg items.size 0 _ _ ⟨_,p_ _ rfl,rfl,rfl⟩ hl1 (by lia) λh1 JH hs1=>?_)))));have iM:((items.toList.drop 0).take items.size)=items.toList:=by rw[List.drop_zero];exact Tc (by simp)
  rw[iM,j_ (by simp)];refine b_ (L_ (UN hh JH (hl1.extBut hs1.extBut fg) (by simp) λh2 uF=>?_));simp only[Option.isSome_none,J_,SA];exact g_ (hQ h2 λb o hb e=>uF b o hb (hs1.extBut b o hb (e_ _ e)))
end
section
variable {X:Cx}{rg:Gr}
def Ox(K:VZ)(n:Nat)(t:TGs):TG:=λv σ H Q=>∃a xs,v=.ref a/\cW K H a xs/\xs.length=n/\t xs σ H Q
theorem IR(hc:X.calm=true)(h:y7 X es t)(hn:(assignEach es X.env).length=n:=by rfl)(hst:(assignEach es X.env).findIdx? (·.1)=none:=by rfl):PG X (.Tuple es k pos) (Ox X.K n t):=by
 intro pins s σ H v u Q I r hw;obtain⟨a,xs,e1,hq,hl,hw⟩:=hw;subst e1;cases r;obtain⟨bu,rv,pl,hz⟩:=I.list hq;have hlen:=rv.length;rw[Vi];refine b_ (SI ?_);unfold unpack;rw[hst,hn,show n=bu.toArray.size by rw[t_];lia];refine b_ (L_ (EX (I.ok.hd hc) pl.isList λh' hx=>?_));have I1:Inv X pins σ H {s with heap:=h'}:=I.kept λb o e=>hx b o (w_ (r_ e)) e;exact h pins _ σ H xs _ Q I1 (by simpa using rv) hw
def Q5(is:VW):Ft:=λd env=>match d with
 | .lst ds=>eo is ds env
 | _=>none
theorem LK(hc:X.calm=true)(h:H8 X es is)(hn:(assignEach es X.env).length=is.length:=by rfl)(hst:(assignEach es X.env).findIdx? (·.1)=none:=by rfl):GD X (.Tuple es k pos) (Q5 is):=
 PG.imp (IR hc h hn hst) λv σ H Q az=>by
  refine cT λ_ kq=>?_;obtain⟨env,B,Z,d,env',R,r,e,k⟩:=az;cases d<;>try cases e
  rename_i ds;obtain⟨a,vs,e1,hq,rr⟩:=r;exact kq (⟨a,vs,e1,R.zh.seq hq,by rw[<- rr.len];exact i5 e,env,B,Z,ds,env',R,rr,e,λσ'=>k σ' Z H (Ex.refl R.zh)⟩)
def NJ(is:VW)(f:Fe):Fs:=λenv=>(f env).bind λd=>(Q5 is d env).bind λe=>some (.nx e)
theorem Mb(hc:X.calm=true)(he:PD X .cl e fe)(h:H8 X es is)(hn:(assignEach es X.env).length=is.length:=by rfl)(hst:(assignEach es X.env).findIdx? (·.1)=none:=by rfl)
  (hs:swapsWithSole [.Tuple es k p2] e pos.line X.env=pure false:=by rfl) (hw:swappedStores [.Tuple es k p2] e X.env=pure none:=by rfl) (h1:(assignEach [.Tuple es k p2] X.env).map (·.2)=[assign (.Tuple es k p2) X.env]:=by rfl) :
  SD X rg (.Assign [.Tuple es k p2] e pos) (NJ is fe):=PS.imp (uU he (LK hc h hn hst) hs hw h1) λE σ H az=>by
 refine cT λ_ kq=>?_;obtain⟨env,B,Z,o,R,e,k⟩:=az;obtain⟨d,e1,e⟩:=a_.mp e;obtain⟨en,e2,e⟩:=a_.mp e;cases e;refine kq (⟨env,B,Z,d,R,e1,λv Z1 H1 x1 g1=>⟨env,B,Z1,d,en,R.ext x1,g1,e2,λσ' Z2 H2 x2 R'=>k σ' Z2 H2 ((x1.trans x2).part R.bh) R'⟩⟩)
variable {l r:V9}{fa fb:Fe}{ga gb:Gr}{pos p:Pos}
theorem FJ:jn X (binaryOp .Add) (λx y H Q=>∃l b xs zs,x=.ref l/\y=.ref b/\cW X.K H l xs/\cW X.K H b zs/\xs.length+zs.length<=sizeLine/\∀p,H p=none->Q (.ref p) (upd H p (.lst (xs++zs)))):=by
 intro pins s σ H x y v u Q I rx ry h;refine cT λ_ kq=>?_;obtain⟨l,b,xs,zs,rfl,rfl,hH,hB,hz,q⟩:=h;cases rx;cases ry;obtain⟨bu,r,⟨o,n,e,c1,c2,c3⟩,_⟩:=I.list hH;obtain⟨uH,r2,⟨o2,n2,e2,d1,d2,d3⟩,_⟩:=I.list hB;obtain⟨cls,dd,dt,sl⟩:=o;obtain⟨Jw,FP,dt2,Dr⟩:=o2;simp only at c1 c2 c3 d1 d2 d3;subst c1 c2 c3 d1 d2 d3;have h1:=r.length;have h2:=r2.length;have hsz:bu.toArray.size+uH.toArray.size<=sizeLine:=by simp only[t_];lia
 refine kq (concat_meets ⟨_,e,rfl⟩ ⟨_,e2,rfl⟩ noFill_list_add seq_list_add PySem.F.slot_list_add PySem.F.entry_list_add (PySem.F.args_list_add_2 _ _) (list_addW l b bu.toArray uH.toArray n n2 none none sl Dr hsz) ⟨e,e2,?_⟩)
 all_goals clear kq
 rw[show bu.toArray++uH.toArray=(bu++uH).toArray by simp];exact⟨.ref _,_,I.lnew (r.append r2) (by rw[h_];lia),rfl,q _ I.fresh⟩
theorem lX(ha:PD X ga l fa)(hb:PD X gb r fb):PD X .nw (.BinOp l .Add r pos) (ak j8 fa fb):=sJ FJ HJ ha hb
end
section
variable {X:Cx}{rg:Gr}{elt:V9}{rest:VO}{scope:V7}{pos spos py:Pos}{tg iter:V9}{ifs:VU}{t:Ft}{c:Fb}{k:Wc}{fi:Fi}{is caps:VW}{cl:VM}{Nc own:VS}{y:Str}
structure GX(X:Cx)(qv:Qv)(e:Expr)(f:Fe):Prop where
 ex:∀(y:Str)(py spos:Pos)(i:Nat),swapsWith e (some (.Name y py)) spos.line X.env=pure true->X.N.Nodup->X.N[i]?=some y->Loc X.env.scope y->(X.fn y=true\/X.env.scope.names.lookup y=some .local)->
  ∀(pins:List (Addr×Obj))(s:Shared)(σ:L2.St)(H:Hp)(E:Ends),Inv X pins σ H s->(∃env B Z d,Rl X.K B Z H env σ/\f env=some d/\∀v Z' H',Ex Z H Z' H'->Gd X.K Z' H H' .nw d v->(∃a xs vs,v=.ref a/\d=.lst xs/\H' a=some (.lst vs)/\qv a H H' xs vs)->E.nx (σ.set i (some v)) H')->
   wpAny (model X.prog X.w) X.A (exec (.Assign [.Name y py] e spos) X.env) (SP X pins E) X.xe s
abbrev L1(X:Cx)(e:V9)(f:Fe):Prop:=GX X QT e f
theorem gY(ht:kI is t)(bq:X.calm=true)(hi:ID X tg iter fi)(fo:fE (λx=>X.env.cells.lookup x) scope.names []=some cl)(hN:Nc.map some=own.map some++caps.map (λj=>X.N[j]?))
  (hb:∀C s H ex pn a,Hq (cS X scope cl Nc C s H ex pn) qv a elt (⟨tg,iter,ifs,0⟩::rest) scope pos 0 tg ifs t c k)
  (fj:g9 X scope caps=true:=by rfl) (bE:scope.kind=.function:=by rfl) (hnc:∀y∈scope.names,y.2≠.cell:=by decide +kernel) (JG:∀x∈scope.names,x.2=.local->scope.names.lookup x.1=some .local:=by decide +kernel)
  (hs:∀x,foldedSetIterable iter X.env x=pure x:=by intro _;rfl) (qo:N4 qv:=by exact HF) :
  GX X qv (.ListComp elt (⟨tg,iter,ifs,0⟩::rest) scope pos) (aG fi is t c k own.length caps):=by
 refine⟨λy py spos j M3 PC hj hy hf pins s σ H E I hT=>?_⟩;obtain⟨env,B,Z,d,R,e,kk⟩:=hT;obtain⟨ds,xs,e1,hu,uS,hl,rfl⟩:=ni e;rw[exec_Assign_Name_used _ _ _ _ M3];refine b_ (SI (b_ ?_));refine(show wpAny (model X.prog X.w) X.A (comprehension (.ListComp elt (⟨tg,iter,ifs,0⟩::rest) scope pos) scope X.env (firstIterPos (⟨tg,iter,ifs,0⟩::rest) pos) (newList []) false (eval iter X.env) (some (assign (.Name y py) X.env)) >>= λ_=>pure ()) _ _ s from ?_);refine b_ (bB (TF rfl hs (ej fo) bE JG ?_) λ_ s' hq=>g_ (g_ hq));refine bB (hi pins s σ H (λJ H1=>∃Z1,Ex Z H Z1 H1/\Walk X.K Z1 ds J) I ⟨env,B,Z,ds,R,e1,λJ Z1 H1 x1 wk=>⟨Z1,x1,wk⟩⟩) λx s1 q1=>bB q1 λKo s2 az=>?_;obtain⟨it,fp,tn,J,H2,hit,I2,T,uT,jR,Z2,x2,wk⟩:=az;subst hit;refine oQ qo ht bq fo bE hnc hN fj hb I2 (R.ext x2) T uT jR wk hu uS hl λa C H' Z' s' vs m I' ns fpC x' MF hv hz rr qq=>?_;refine(show wpAny (model X.prog X.w) X.A (assign (.Name y py) X.env (.ref a)) _ _ s' from Vm (j9 I' PC hj hy (show RelV (.ref a) (.ref a)from rfl) (λs2' I2' az=>?_) hf));refine cT λ_ kq=>?_;obtain⟨b,hsb,MP⟩:=az;obtain⟨f1,f2,f3,f4,f5,f6⟩:=fpC;have PF:C≠b:=λz=>by
  rcases MP with z2 | z2
  .exact f2 (z.trans z2)
  .exact f5 y b z2 z.symm
 refine kq (⟨m,ns.sameBut hsb PF,λh' hs'=>?_⟩)
 all_goals clear kq
 exact⟨_,H',I2'.turned (λb o hb e=>hs'.extBut b o hb e) f1 f2 f4 f5 f6,kk _ Z' H' (x2.trans x') ⟨a,vs,xs,rfl,rfl,x2.h.free MF,hv,hz,rr⟩ ⟨a,xs,vs,rfl,rfl,hv,qo.base x2.h qq⟩⟩
variable {e:V9}{fe:Fe}
theorem gZ(i:Nat)(h:L1 X e fe)(hN:X.N.Nodup)(hi:X.N[i]?=some y:=by rfl)(hx:Loc X.env.scope y:=by first | exact Or.inl rfl | exact Or.inr rfl)(M3:swapsWith e (some (.Name y py)) spos.line X.env=pure true:=by rfl)
  (hf:X.fn y=true\/X.env.scope.names.lookup y=some .local:=by first | exact .inl rfl | exact .inr rfl | assumption):SD X rg (.Assign [.Name y py] e spos) (setF i fe):=λpins s σ H E I hw=>by
 refine cT λ_ kq=>?_;obtain⟨env,B,Z,o,R,e0,kk⟩:=hw;obtain⟨d,e1,e2⟩:=a_.mp e0;cases e2;refine kq (h.ex y py spos i M3 hN hi hx hf pins s σ H E I ⟨env,B,Z,d,R,e1,λv Z' H' x g _=>?_⟩)
 all_goals clear kq
 obtain⟨a,vs,ds,rfl,rfl,h1,h2,h3,r⟩:=g;have s1:aD Z' (upd Z' a (.lst vs)):=dj h3;have x2:Ex Z H (upd Z' a (.lst vs)) H':=⟨x.h,x.z.trans s1,lV x.zh h2,λb hb e=>by rw[au (λz=>hb (by rw[z];exact h1))];exact x.fr b hb e,kX x.nf Kh⟩;exact kk _ _ H' (x2.part R.bh) ((R.ext x2).setF i ⟨a,vs,rfl,cW.of av,ai.mono s1 ds r⟩)
end
section
variable {X:Cx}{rg:Gr}
theorem F6(i j:Nat){kt k2 pt2}(hc:X.calm=true)(hN:X.N.Nodup)(ha:PL X [a,b] fs)(hi:X.N[i]?=some x:=by rfl)(hj:X.N[j]?=some y:=by rfl)(ML:i≠j:=by decide)
  (hx:X.env.scope.names.lookup x=some .local:=by rfl) (hy:X.env.scope.names.lookup y=some .local:=by rfl)
  (hw:swappedStores [.Tuple [.Name x px,.Name y py] kt pt] (.Tuple [a,b] k2 pt2) X.env=pure (some [x,y]):=by rfl)
  (hs:swapsWithSole [.Tuple [.Name x px,.Name y py] kt pt] (.Tuple [a,b] k2 pt2) pos.line X.env=pure false:=by rfl) :
  SD X rg (.Assign [.Tuple [.Name x px,.Name y py] kt pt] (.Tuple [a,b] k2 pt2) pos) (wB [i,j] (a7 fs)):=PS.imp (HE hc hN hi hj ML hx hy ha.p hw hs) λE σ H az=>by
 obtain⟨env,B,Z,o,R,e,k⟩:=az;obtain⟨d,e1,e⟩:=a_.mp e;obtain⟨ds,e0,e1⟩:=a_.mp e1;cases e1;obtain⟨en,e2,e⟩:=a_.mp e;cases e
 match ds,e2,e0 with
 | [d1,d2],e2,e0=>
  cases e2;refine⟨env,B,Z,_,R,e0,λvs Z1 H1 x1 r=>?_⟩;obtain⟨v1,r1,rfl,q1,v2,r2,rfl,q2,rfl⟩:=r;exact⟨v1,v2,rfl,k _ Z1 H1 (x1.part R.bh) (((R.ext x1).setF i q1).setF j q2)⟩
end
end Mi
namespace Mi
open PySem L2
theorem mF(n:Nat)(h:i.natAbs<=n)(hn:n<2 ^ 4096:=by decide +kernel):big i=true:=x_ (Ve h hn)
theorem qE(h1:-1000000000<=i)(h2:i<=1000000000):big i=true:=mF 1000000000 (by omega)
theorem uY(h1:-1000000000<=i)(h2:i<=1000000000)(h3:-1000000000<=j)(h4:j<=1000000000):mulI (.int i) (.int j)=some (.int (i*j)):=by
 show(if(big i&&big j)=true then _ else _)=_;rw[qE h1 h2,qE h3 h4];rfl
theorem jZ(h:0<j):modI (.int i) (.int j)=some (.int (i%j)):=by
 show(if decide (0<j)=true then _ else _)=_;rw[x_ h];rfl
theorem wA(h:0<j)(h2:j<1073741824):fdivI (.int i) (.int j)=some (.int (i/j)):=by
 show(if decide (0<j/\j<1073741824)=true then _ else _)=_;rw[x_ (And.intro h h2)];rfl
theorem rq(h:big i=true)(h2:0<=j)(h3:j<=1000):powI (.int i) (.int j)=some (.int (i ^ j.toNat)):=by
 show(if(big i&&decide (0<=j/\j<=1000))=true then _ else _)=_;rw[h,x_ (And.intro h2 h3)];rfl
theorem Dz(h:big i=true)(h2:big j=true):mulI (.int i) (.int j)=some (.int (i*j)):=by
 show(if(big i&&big j)=true then _ else _)=_;rw[h,h2];rfl
theorem k6(i j:Int):addI (.int i) (.int j)=some (.int (i+j)):=rfl
theorem L9(i j:Int):subI (.int i) (.int j)=some (.int (i-j)):=rfl
theorem AN(i j:Int):ltI (.int i) (.int j)=some (.bl (decide (i<j))):=rfl
theorem zi(i j:Int):leI (.int i) (.int j)=some (.bl (decide (i<=j))):=rfl
theorem ES(i j:Int):gtI (.int i) (.int j)=some (.bl (decide (j<i))):=rfl
theorem Ld(i j:Int):gv (.int i) (.int j)=some (.bl (i==j)):=rfl
theorem br(h1:f env=some x)(h2:g env=some y):ak b f g env=b x y:=by
 unfold ak;rw[h1,h2];rfl
theorem tE(h1:f env=some x):bt b f env=b x:=by
 unfold bt;rw[h1];rfl
theorem EF{x:Int}(n k:Nat)(h1:x.natAbs<=n):(x ^ k).natAbs<=n ^ k:=by
 rw[Int.natAbs_pow];exact Nat.pow_le_pow_left h1 k
theorem EE{x y:Int}(n m:Nat)(h1:x.natAbs<=n)(h2:y.natAbs<=m):(x+y).natAbs<=n+m:=by omega
theorem jt(I:En->Prop):∀(ds:Wf)(env:En),I env->(∀d∈ds,∀e,I e->∃e1,(t d e).bind body=some (.nx e1)/\I e1)->∃e2,dA t body ds env=some (.nx e2)/\I e2
 | [],env,h,_=>⟨env,rfl,h⟩
 | d::ds,env,h,hb=>by
  obtain⟨e1,h1,h2⟩:=hb d f_ env h;obtain⟨e2,h3,h4⟩:=jt I ds e1 h2 λd' hd=>hb d' (d_ _ hd);refine⟨e2,?_,h4⟩;obtain⟨e0,h5,h6⟩:=a_.mp h1;show(t d env).bind (λe1=>(body e1).bind _)=_;rw[h5];show(body e0).bind _=_;rw[h6];exact h3
theorem qf(I:Nat->En->Prop):∀(ds:Wf)(n:Nat)(env:En),I n env->(∀i d e,ds[i]?=some d->I (n+i) e->∃e1,(t d e).bind body=some (.nx e1)/\I (n+i+1) e1)->∃e2,dA t body ds env=some (.nx e2)/\I (n+ds.length) e2
 | [],n,env,h,_=>⟨env,rfl,h⟩
 | d::ds,n,env,h,hb=>by
  obtain⟨e1,h1,h2⟩:=hb 0 d env rfl h;obtain⟨e2,h3,h4⟩:=qf I ds (n+1) e1 h2 λi d' e hd he=>by
   have:=hb (i+1) d' e (by simpa using hd) (by rw[show n+(i+1)=n+1+i by omega];exact he);rw[show n+1+i+1=n+(i+1)+1 by omega];exact this
  refine⟨e2,?_,by rw[show n+(d::ds).length=n+1+ds.length by simp;omega];exact h4⟩;obtain⟨e0,h5,h6⟩:=a_.mp h1;show(t d env).bind (λe1=>(body e1).bind _)=_;rw[h5];show(body e0).bind _=_;rw[h6];exact h3
theorem wQ{α:Type}{xs:List α}{k:Nat}{x:α}(h:xs[k]?=some x):L2.atI xs (k:Int)=some x:=by
 have hk:=(s_.mp h).1;unfold L2.atI L2.Kb;rw[i_ (by omega),i_ (by omega)];simpa using h
theorem Dy(h:(aU 0 n)[i]?=some d):d=.int i/\i<n:=by
 unfold aU at h;rw[u_]at h;cases e:(List.range n)[i]? with
 | none=>rw[e]at h;cases h
 | some j=>
  rw[e]at h;have hi:=(s_.mp e).1;rw[Ub]at hi;rw[U3 hi]at e;cases e;cases h;exact⟨by simp,hi⟩
end Mi
namespace Mi
theorem Hy(d:D)(env:En):gF (.F d::env) 0=some d:=rfl
theorem G6(s:Slot)(env:En)(i:Nat):gF (s::env) (i+1)=gF env i:=rfl
theorem GJ(h:env[i]?=some (.O (.L ds)))(hf:f env=some d)(hl:ds.length<16000000):rN i f env=some (.nx (env.set i (.O (.L (ds++[d]))))):=by
 unfold rN;rw[h];show(f env).bind _=_;rw[hf];show(if ds.length<16000000 then _ else _)=_;rw[i_ hl]
theorem aK(h:f env=some (.nx e)):aI f g env=g e:=by unfold aI;rw[h];rfl
theorem b0(h:f env=some d):setF i f env=some (.nx (env.set i (.F d))):=by unfold setF;rw[h];rfl
theorem cB(h:f env=some d):bj f env=some (.rt d):=by unfold bj;rw[h];rfl
theorem hV(h:t env=some true):iC t f g env=f env:=by unfold iC;rw[h];rfl
theorem cm(h:t env=some false):iC t f g env=g env:=by unfold iC;rw[h];rfl
theorem fG(h:fi env=some ds):eY fi t b env=dA t b ds env:=by unfold eY;rw[h];rfl
theorem cM(h:f env=some (.bl b)):fB f env=some b:=by unfold fB;rw[h];rfl
theorem Kv(h:f env=some true):Dm f g env=some true:=by unfold Dm;rw[h];rfl
theorem F'(h:f env=some false):Dm f g env=g env:=by unfold Dm;rw[h];rfl
theorem mZ(h:f env=some b):je f env=some !b:=by unfold je;rw[h];rfl
theorem call_v{fs:Fes}{m:Wf->Wg}{env:En}{ds:Wf}(h:fs env=some ds):(fs env).bind m=m ds:=by rw[h];rfl
theorem ay(h:f env=some d)(h2:fs env=some ds):ab f fs env=some (d::ds):=by unfold ab;rw[h,h2];rfl
theorem bD:fNil env=some []:=rfl
theorem bR(h:f (cb n ds)=some (.rt d)):bF f n ds=some d:=by unfold bF;rw[h];rfl
theorem ia(h:f env=some (.int (n:Int)))(h2:n<=1000000000):cY f env=some (aU 0 n):=by
 have hr:AC (n:Int)=true:=by
  simp only[AC,Sk];omega
 unfold cY;rw[h,z_];dsimp only;rw[i_ hr,S7]
theorem mB(h:f env=some (.lst ds)):bt bX f env=some (.int (ds.length:Int)):=by unfold bt;rw[h];rfl
theorem BN(h:f env=some (.lst ds))(h2:g env=some (.int i))(h3:L2.atI ds i=some d):ak aV f g env=some d:=(br h h2).trans h3
theorem My(h:f env=some (.lst ds))(h2:eo is ds env=some e):NJ is f env=some (.nx e):=by
 unfold NJ;rw[h];show(eo is ds env).bind _=_;rw[h2];rfl
theorem tZ(h:f env=some (.tup ds))(h2:eo is ds env=some e):wB is f env=some (.nx e):=by
 unfold wB;rw[h];show(eo is ds env).bind _=_;rw[h2];rfl
theorem bG(h:f env=some (.lst ds)):cw f env=some ds:=by unfold cw;rw[h];rfl
theorem oP(h:f env=some (.tup ds)):nE f env=some ds:=by unfold nE;rw[h];rfl
theorem ji(h:f env=some (.rt d)):aI f g env=some (.rt d):=by unfold aI;rw[h];rfl
theorem pD(ns:Wf)(k:Nat):cutD ns none (some (k:Int))=ns.take k:=by
 unfold cutD;rw[HT.uf,HT.xh,List.drop_zero,Nat.sub_zero]
 by_cases h:ns.length<=k
 .rw[Nat.min_eq_right h,UQ,Tc h]
 .rw[VF (by omega)]
end Mi
namespace Mi
open PySem PySem.Spec PyProof.Rows L2
def tD:Wf->Option (List Bool)
 | []=>some []
 | .bl b::r=>(tD r).bind λbs=>some (b::bs)
 | _=>none
theorem qJ:∀{ds:Wf}{bs:List Bool},tD ds=some bs->ds=bs.map .bl
 | [],bs,h=>by cases h;rfl
 | d::r,bs,h=>by
  cases d<;>try cases h
  rename_i b;obtain⟨cs,h1,h2⟩:=a_.mp h;cases h2;rw[qJ h1];rfl
def vk:D->Wg
 | .lst ds=>(tD ds).bind λbs=>some (.bl (bs.all id))
 | _=>none
def FG:D->Wg
 | .lst ds=>(tD ds).bind λbs=>some (.bl (bs.any id))
 | _=>none
theorem ai.bls{K:Fg}{H:Hp}:∀{bs:List Bool}{vs:Wh},ai K H (bs.map .bl) vs->vs=bs.map .bl
 | [],vs,h=>h
 | b::bs,vs,⟨v,r,e,h1,h2⟩=>by subst e;cases(show v=V.bl b from h1);rw[ai.bls h2];rfl
theorem aw.bls:∀{bs:List Bool}{us:VP},aw (bs.map V.bl) us->us=bs.map .bool
 | [],us,h=>by cases h;rfl
 | b::bs,us,h=>by
  cases h with
  | cons p q=>cases(show _=Value.bool b from p);rw[aw.bls q];rfl
theorem FC(bs:List Bool):(List.range bs.length).all (λi=>bs.getD i false)=bs.all id:=by
 rw[SJ];simp only[P_,SQ,id_eq];constructor
 .intro h b hb;obtain⟨i,hi,rfl⟩:=U6 hb;simpa [List.getD,hi]using h i hi
 .intro h i hi;simpa [List.getD,hi]using h _ (Uh hi)
theorem Er(bs:List Bool):(List.range bs.length).any (λi=>bs.getD i false)=bs.any id:=by
 rw[SJ];simp only[Te,SQ,id_eq];constructor
 .rintro⟨i,hi,h⟩;exact⟨_,Uh hi,by simpa [List.getD,hi]using h⟩
 .rintro⟨b,hb,h⟩;obtain⟨i,hi,rfl⟩:=U6 hb;exact⟨i,hi,by simpa [List.getD,hi]using h⟩
section
variable {X:Cx}{l r:V9}{fa fb:Fe}{ga gb:Gr}{pos p p2 p3 p4:Pos}
theorem ud{A:V3}{pins:VI}{σ:L2.St}{H:Hp}{s:V1}{a:V8}{bs:List Bool}{E:VH}{Q:VH}{g:List Bool->Bool}{r2:VW->(Nat->Bool)->Bool}
  (hh:A.handled=none) (I:Inv X pins σ H s) (hq:cW X.K H a (bs.map V.bl)) (hg:∀n,n=bs.length->r2 (List.range n) (λi=>bs.getD i false)=g bs) (q:∀s',Inv X pins σ H s'->Q (.bool (g bs)) s') :
  wpAny (model X.prog X.w) A.in1 (pyIter (.ref a)) (λit s₂=>∃I fp wr n P St tr,it=.ref I/\Walks X.prog X.w A.in1 I fp wr n P St/\St 0 s₂.heap/\TruthOf X.prog X.w A.in1 P tr/\
   ∀h' tk,(∀b o,b∉wr->s₂.heap.get? b=some o->h'.get? b=some o)->Q (.bool (r2 (List.range n) tr)) {s₂ with heap:=h',toks:=tk}) E s:=by
 obtain⟨bu,rv,pl,hz⟩:=I.list hq;cases aw.bls rv;have fg:a<s.sz:=by obtain⟨o,ho,_⟩:=pl.isList;exact r_ ho
 refine Tv pl.isList ?_;refine⟨s.sz,_,_,_,_,_,λi=>bs.getD i false,rfl,Walks.list (show A.in1.handled=none from hh) s.sz a (w_ fg) (bs.map Value.bool).toArray,⟨⟨_,p_ _ rfl,rfl,rfl⟩,pl.isList.push _⟩,λi v s1 Q1 E1 hv hQ=>?_,λh' tk hk=>?_⟩
 .have zH:(bs.map Value.bool)[i]?=some v:=by simpa using hv
  rw[u_]at zH;cases e:bs[i]? with
  | none=>rw[e]at zH;cases zH
  | some b=>
   rw[e]at zH;cases zH;have hb:bs.getD i false=b:=by simp[List.getD,e]
   have hQ:Q1 (bs.getD i false) s1:=hQ;rw[hb]at hQ;exact SG hQ
 .rw[hg _ (by simp)];refine q _ (I.kept λb o e=>hk b o (λhb=>?_) (e_ _ e));have:b=s.sz:=by simpa using hb
  exact w_ (r_ e) this
theorem zp(hc:X.calm=true):dv X (.builtin "all") (λxs H Q=>∃(a:V8)(bs:List Bool),xs=[.ref a]/\cW X.K H a (bs.map V.bl)/\Q (.bl (bs.all id)) H):=by
 intro pins s σ H xs us Q I rs h;obtain⟨a,bs,rfl,hq,q⟩:=h;obtain⟨u,rfl,rx⟩:=vals1 rs;cases rx;exact call_all_walk (ud (g:=λbs=>bs.all id) (I.ok.hd hc) I hq (λn e=>by subst e;exact FC bs) λs' I'=>⟨.bl _,H,I',rfl,q⟩)
theorem yJ(hc:X.calm=true):dv X (.builtin "any") (λxs H Q=>∃(a:V8)(bs:List Bool),xs=[.ref a]/\cW X.K H a (bs.map V.bl)/\Q (.bl (bs.any id)) H):=by
 intro pins s σ H xs us Q I rs h;obtain⟨a,bs,rfl,hq,q⟩:=h;obtain⟨u,rfl,rx⟩:=vals1 rs;cases rx;exact call_any_walk (ud (g:=λbs=>bs.any id) (I.ok.hd hc) I hq (λn e=>by subst e;exact Er bs) λs' I'=>⟨.bl _,H,I',rfl,q⟩)
theorem Ky{K:Fg}:gB K .cl vk (λxs H Q=>∃(a:V8)(bs:List Bool),xs=[.ref a]/\cW K H a (bs.map V.bl)/\Q (.bl (bs.all id)) H):=λ{Z H x dx d Q} s h e k=>by
 cases dx<;>try cases e
 obtain⟨bs,h1,h2⟩:=a_.mp e;cases h2;cases qJ h1;obtain⟨a,vs,rfl,q,rr⟩:=h.lst s;cases ai.bls rr;exact⟨a,bs,rfl,q,k _ Z H (Ex.refl s) rfl⟩
theorem LJ{K:Fg}:gB K .cl FG (λxs H Q=>∃(a:V8)(bs:List Bool),xs=[.ref a]/\cW K H a (bs.map V.bl)/\Q (.bl (bs.any id)) H):=λ{Z H x dx d Q} s h e k=>by
 cases dx<;>try cases e
 obtain⟨bs,h1,h2⟩:=a_.mp e;cases h2;cases qJ h1;obtain⟨a,vs,rfl,q,rr⟩:=h.lst s;cases ai.bls rr;exact⟨a,bs,rfl,q,k _ Z H (Ex.refl s) rfl⟩
theorem yt:bootBuiltins "all"=some (.builtin "all"):=by decide +kernel
theorem zj:bootBuiltins "any"=some (.builtin "any"):=by decide +kernel
theorem AI(hm:X.mg "all"=none)(bq:X.calm=true)(ha:PD X ga l fa)(hg:Gl X "all":=by rfl)(he:starEach [l] X.env=[(false,eval l X.env)]:=by rfl):PD X .cl (.Call (.Name "all" p) [l] [] pos) (bt vk fa):=
 oY (zp bq) Ky yt hm ha (by decide) (by decide) hg he
theorem KU(hm:X.mg "any"=none)(bq:X.calm=true)(ha:PD X ga l fa)(hg:Gl X "any":=by rfl)(he:starEach [l] X.env=[(false,eval l X.env)]:=by rfl):PD X .cl (.Call (.Name "any" p) [l] [] pos) (bt FG fa):=
 oY (yJ bq) LJ zj hm ha (by decide) (by decide) hg he
end
section
variable {prog:V2}{w:V5}{A:V3}{E:VH}{s:V1}
theorem As(ho:s.heap.get? a=some o)(hc:o.cls=.type "list"\/o.cls=.type "tuple")(hd:o.data=.seq vs.toArray n)
    (q:Q vs {s with heap:=(s.heap.push (seqObj "list" #[] 0)).update s.sz (Obj.mapSeq (·++vs.toArray))}) (hz:vs.length<=sizeLine):wpAny (model prog w) A (collect (.ref a)) Q E s:=by
  unfold collect;refine b_ (wpAny_runValue (S8 PyProof.Rows.entry_proto_collect' (show wpAny _ _ (newList [] >>= λz=>again (.builtin "list.__iadd__" ⟨[z,.ref a],[]⟩)) _ _ s from
    b_ (Vt (g_ ⟨Code.quiet_builtin _ (by decide +kernel),S8 PyProof.Rows.entry_list_iadd' ?_⟩)))))
  have e1:(s.heap.push (seqObj "list" #[] 0)).get? a=some o:=e_ _ ho;have e2:(s.heap.push (seqObj "list" #[] 0)).get? s.sz=some (seqObj "list" #[] 0):=p_ _ rfl;obtain⟨T,hT,ht⟩:∃T:String,o.cls=.type T/\(Value.type T==Value.type "list"||Value.type T==Value.type "tuple")=true:=by
    rcases hc with h | h
    . exact⟨"list",h,rfl⟩
    . exact⟨"tuple",h,rfl⟩
  show wpAny _ _ (Builtin.List.listExtendWith (.ref s.sz) (.ref a) (.ref s.sz)) _ _ {s with heap:=s.heap.push (seqObj "list" #[] 0)};unfold Builtin.List.listExtendWith;refine b_ (wpAny_typeOf ⟨o,e1,hT⟩ ?_);rw[i_ (by rw[Bool.or_assoc,ht,Bool.or_true])];refine b_ (listItems_at e1 hd (b_ (listItems_at e2 rfl ?_)));rw[j_ (by simp)];refine b_ (listUpdate_at e2 rfl (g_ ?_) (Ts _) (by simp only[Array.size_append,t_,SU];lia));show wpAny (model prog w) A (load s.sz >>= λo=>match o.data with | .seq xs _=>pure xs.toList | _=>unsupported "internal:collect") Q E {s with heap:=(s.heap.push (seqObj "list" #[] 0)).update s.sz (Obj.mapSeq (·++vs.toArray))};refine b_ (wpAny_load (U1 e2 _) ?_);show wpAny _ _ (pure ((#[]:Array V0)++vs.toArray).toList) Q E _;rw[show((#[]:Array V0)++vs.toArray).toList=vs by simp];exact g_ q
end
def o8:Wf->Option VX
 | []=>some []
 | .int i::r=>(o8 r).bind λbs=>some (i::bs)
 | _=>none
theorem sE:∀{ds:Wf}{bs:VX},o8 ds=some bs->ds=bs.map .int
 | [],bs,h=>by cases h;rfl
 | d::r,bs,h=>by
  cases d<;>try cases h
  obtain⟨cs,h1,h2⟩:=a_.mp h;cases h2;rw[sE h1];rfl
theorem pF:∀(ns:VX),o8 (ns.map .int)=some ns
 | []=>rfl
 | n::ns=>by show(o8 (ns.map .int)).bind _=_;rw[pF ns];rfl
theorem ai.intsV{K:Fg}{H:Hp}:∀{bs:VX}{vs:Wh},ai K H (bs.map .int) vs->vs=bs.map .int
 | [],vs,h=>h
 | b::bs,vs,⟨v,r,e,h1,h2⟩=>by subst e;cases(show v=V.int b from h1);rw[ai.intsV h2];rfl
section
variable {X:Cx}{l r:V9}{fa fb:Fe}{ga gb:Gr}{pos p:Pos}
end
structure Src(prog:Program)(w:World)(i l:Addr)(it:Nat->Heap->Prop)(at_:List Value->Heap->Prop):Prop where
 nxt:∀{A:Around}{E:Value->Shared->Prop}{s:Shared}{k:Nat}{xs:List Value}{x:Value}{Q:Value->Shared->Prop},it k s.heap->at_ xs s.heap->xs[k]?=some x->(∀h',it (k+1) h'->Heap.SameBut i s.heap h'->Q x {s with heap:=h'})->
  wpAny (model prog w) A (Builtin.SmallTypes.nextOf (.ref i)) Q E s
 fin:∀{A:Around}{E:Value->Shared->Prop}{s:Shared}{k:Nat}{xs:List Value}{Q:Value->Shared->Prop},A.handled=none->it k s.heap->at_ xs s.heap->xs[k]?=none->
  (∀h' e,Heap.ExtBut i s.heap h'->(∃o,h'.get? e=some o/\o.cls=.type "StopIteration")->E (.ref e) {s with heap:=h'})->wpAny (model prog w) A (Builtin.SmallTypes.nextOf (.ref i)) Q E s
 itx:∀{k:Nat}{h h':Heap},it k h->(∀o,h.get? i=some o->h'.get? i=some o)->it k h'
 atx:∀{xs:List Value}{h h':Heap},at_ xs h->(∀o,h.get? l=some o->h'.get? l=some o)->at_ xs h'
 obj:∀{k:Nat}{h:Heap},it k h->∃o,h.get? i=some o/\∀v,o.data≠.cell v
 lt:∀{xs:List Value}{h:Heap},at_ xs h->∃o,h.get? l=some o
section
variable {prog:V2}{w:V5}
theorem u4(hit:s.heap.IsTupleIter i t k)(ht:s.heap.IsTuple t items)(hx:items[k]?=some x)
  (hQ:∀h',h'.IsTupleIter i t (k+1)->Heap.SameBut i s.heap h'->Q x {s with heap:=h'}):wpAny (model prog w) A (Builtin.SmallTypes.nextOf (.ref i)) Q E s:=by
 obtain⟨o,ho,hc,hd⟩:=id hit;obtain⟨ol,Dt,_,nl,FM⟩:=ht;unfold Builtin.SmallTypes.nextOf;refine b_ (SZ hit.typeIs Tj (SL Tj hit.typeIs F.entry_tuple_iterator_next ?_ (F.args_tuple_iterator_next_1 _)));show wpAny _ _ (field (.ref i) 0 >>= _) _ _ s;refine b_ (TC ho hd rfl (show wpAny _ _ (if(Value.ref t==Value.none)=true then _ else _) _ _ s from ?_));rw[j_ (show ¬((Value.ref t==Value.none)=true)from Sf)];refine(show wpAny _ _ (field (.ref i) 1 >>= _) _ _ s from b_ (TC ho hd rfl (show wpAny _ _ (seqItems? (.ref t) >>= _) _ _ s from b_ (TM Dt FM ?_))));simp only[S7,hx];refine b_ (Vf ho hd (by simp) (g_ ⟨x,rfl,g_ (hQ _ ?_ (SE ..))⟩));exact⟨_,UM _ ho (Obj.isFreed_of_fields (UA hd _)),(Obj.cls_mapFields ..).trans hc,by rw[UA hd];simp[rawInt]⟩
theorem yH(hh:A.handled=none)(hit:s.heap.IsTupleIter i t k)(ht:s.heap.IsTuple t items)(hx:items[k]?=none)
  (hE:∀h' e,Heap.ExtBut i s.heap h'->(∃o,h'.get? e=some o/\o.cls=.type "StopIteration")->E (.ref e) {s with heap:=h'}):wpAny (model prog w) A (Builtin.SmallTypes.nextOf (.ref i)) Q E s:=by
 obtain⟨o,ho,hc,hd⟩:=id hit;obtain⟨ol,Dt,_,nl,FM⟩:=ht;unfold Builtin.SmallTypes.nextOf;refine b_ (SZ hit.typeIs Tj (SL Tj hit.typeIs F.entry_tuple_iterator_next ?_ (F.args_tuple_iterator_next_1 _)));show wpAny _ _ (field (.ref i) 0 >>= _) _ _ s;refine b_ (TC ho hd rfl (show wpAny _ _ (if(Value.ref t==Value.none)=true then _ else _) _ _ s from ?_));rw[j_ (show ¬((Value.ref t==Value.none)=true)from Sf)];refine(show wpAny _ _ (field (.ref i) 1 >>= _) _ _ s from b_ (TC ho hd rfl (show wpAny _ _ (seqItems? (.ref t) >>= _) _ _ s from b_ (TM Dt FM ?_))));simp only[S7,hx];refine b_ (Vb (b_ (Vf ho hd (by simp) ?_)));refine(show wpAny _ _ (newExc (.type "StopIteration") [] >>= _) _ _ _ from b_ ?_);simp only[newExc,newTuple];refine b_ (SH (b_ (UE (by first | rfl | (simp only[firstArgMember];rfl)) ?_)) (by size_fits));refine SH ?_ (by size_fits);simp only[raiseNew];refine b_ (wpAny_handled ?_)
 first | rw[show A.in1.handled=none from hh] | rw[hh]
 exact b_ (g_ (wpAny_throw (hE _ _ (((SE ..).extBut.push _).push _) ⟨_,p_ _ rfl,rfl⟩)))
theorem Oi(i l:V8):Src prog w i l (λk h=>h.IsTupleIter i l k) (λxs h=>h.IsTuple l xs.toArray) where
 nxt:=λh1 h2 h3 h4=>u4 h1 h2 (by simpa using h3) h4
 fin:=λhh h1 h2 h3 h4=>yH hh h1 h2 (by simpa using h3) h4
 itx:=λh1 h2=>h1.at h2
 atx:=λ⟨o,h1,h2⟩ h3=>⟨o,h3 o h1,h2⟩
 obj:=λ⟨o,e,c,d⟩=>⟨o,e,λv z=>by rw[d]at z;cases z⟩
 lt:=λ⟨o,h1,_⟩=>⟨o,h1⟩
theorem OH(i l:V8):Src prog w i l (λk h=>h.IsListIter i l k) (λxs h=>h.IsList l xs.toArray) where
 nxt:=λh1 h2 h3 h4=>wpAny_nextOf_list_item h1 h2 (by simpa using h3) h4
 fin:=λhh h1 h2 h3 h4=>wpAny_nextOf_list_end hh h1 h2 (by simpa using h3) h4
 itx:=λh1 h2=>h1.at h2
 atx:=λh1 h2=>h1.at h2
 obj:=λ⟨o,e,c,d⟩=>⟨o,e,λv z=>by rw[d]at z;cases z⟩
 lt:=λ⟨o,h1,_⟩=>⟨o,h1⟩
variable {A:V3}{E:VH}{s:V1}{z TI TO i1 i2 l1 l2:V8}{k1 k2:Nat}{xs ys:VP}{x y a b:V0}{Rm it2:Nat->V4->Prop}{at1 at2:VP->V4->Prop}
theorem Kf(hs:Heap.ExtBut e h h')(n:c≠e):∀o,h.get? c=some o->h'.get? c=some o:=λo q=>hs c o n q
end
section
variable {X:Cx}{pins:VI}{σ:L2.St}{H:Hp}{s:V1}{h':V4}
theorem lM{t':Nat}{ch:VT}(I:L2.Inv X pins σ H s)(hf:∀b∈ch,bQ X pins H b)(k:∀b o,b∉ch->s.heap.get? b=some o->h'.get? b=some o):L2.Inv X pins σ H {s with heap:=h',toks:=t'}:=by
 have MK:∀b u,H b=some u->b∉ch:=λb u e z=>by rw[(hf b z).1]at e;cases e
 refine I.step (λb hb=>?_) (λb o _ _ hc e _=>k b o hc e) (λb o _ _ hc e _=>⟨o.slots,k b o hc e⟩) (λ_ _ _ _ n=>n)
  (λb o hc e=>⟨o,k b o hc e⟩) (λ_ _ e=>e) (λ_ _ _ e=>e) (λ_ _ e=>e) (λm hm=>?_) (λb u e=>?_) I.bare
 .obtain⟨f0,f1,f2,f3,f4,f5⟩:=hf b hb;exact⟨f3,f1,f4,f5⟩
 .obtain⟨o,es,ep,ho,r⟩:=hm;exact⟨o,es,ep,k _ o (λz=>(hf _ z).2.1 rfl) ho,r⟩
 .refine(I.hok b u e).stay (λc v hc q=>k c v ?_ q) (λ_ q=>q) (λ_ _ q=>q) λ_ _ q=>q;rcases hc with z | z
  .rw[z];exact MK b u e
  .exact MK c _ z
end
structure PH(K:Fg)(l:Addr)(S:Hp->List V->Prop)(at_:List Value->Heap->Prop):Prop where
 get:∀{X:Cx}{pins:List (Addr×Obj)}{σ:L2.St}{H:Hp}{s:Shared}{xs:List V},X.K=K->L2.Inv X pins σ H s->S H xs->∃bu,aw xs bu/\at_ bu s.heap
 inj:∀{X:Cx}{pins:List (Addr×Obj)}{σ:L2.St}{H:Hp}{s:Shared}{xs ys:List V},X.K=K->L2.Inv X pins σ H s->S H xs->S H ys->xs=ys
theorem OW{K:Fg}(l:V8):PH K l (λH xs=>c7 K H l xs) (λxs h=>h.IsTuple l xs.toArray):=
 ⟨λe I h=>by subst e;obtain⟨bu,rv,p,hz⟩:=I.tuple h;exact⟨bu,rv,p⟩,λe I h1 h2=>by subst e;exact I.tuple_inj h1 h2⟩
theorem Os{K:Fg}(l:V8):PH K l (λH xs=>cW K H l xs) (λxs h=>h.IsList l xs.toArray):=
 ⟨λe I h=>by subst e;obtain⟨bu,rv,p,hz⟩:=I.list h;exact⟨bu,rv,p.isList⟩,λe I h1 h2=>by subst e;exact I.list_inj h1 h2⟩
abbrev NR(c:String)(h:V4)(l:V8):V4:=h.push {cls:=.type c,data:=.fields #[.ref l,.int 0 0]}
section
variable {X:Cx}{es:VU}{kk:Nat}{tp:Pos}
end
end Mi
namespace Mi
open PySem L2
theorem GK(h1:f env=some (.bl p))(h2:p=true->g env=some (.bl q)):ky f g env=some (.bl (p&&q)):=by
 unfold ky;rw[h1];cases p with
 | true=>exact h2 rfl
 | false=>rfl
theorem AA(h1:f env=some p)(h2:p=true->g env=some q):i9 f g env=some (p&&q):=by
 unfold i9;rw[h1];cases p with
 | true=>exact h2 rfl
 | false=>rfl
theorem GL(h1:f env=some p)(h2:p=false->g env=some q):Dm f g env=some (p||q):=by
 unfold Dm;rw[h1];cases p with
 | false=>exact h2 rfl
 | true=>rfl
theorem Hm(hx:fa env=some x)(hy:fb env=some y)(hw:fc env=some w)(h1:b x y=some (.bl p))(h2:b' y w=some (.bl q)):Hx b b' fa fb fc env=some (.bl (p&&q)):=by
 unfold Hx;rw[hx];show(fb env).bind _=_;rw[hy];show(b x y).bind _=_;rw[h1];cases p with
 | true=>show(fc env).bind _=_;rw[hw];exact h2
 | false=>rfl
theorem be(h1:fi env=some ds)(h2:cf is (bM n caps env)=true)(h3:dN t c k (bM n caps env) ds=some xs)(hl:xs.length<=16000000):aG fi is t c k n caps env=some (.lst xs):=by
 unfold aG;rw[h1];show(if cf is (bM n caps env)=true then _ else _)=_;rw[i_ h2,h3];show(if xs.length<=16000000 then _ else _)=_;rw[i_ hl]
theorem AV(p:D->Bool)(g:D->D):∀(ds:Wf),(∀d∈ds,∃e1,t d env=some e1/\c e1=some (p d)/\(p d=true->k e1=some [g d]))->dN t c k env ds=some ((ds.filter p).map g)
 | [],_=>rfl
 | d::ds,h=>by
  obtain⟨e1,h1,h2,h3⟩:=h d f_;have ih:=AV p g ds λx hx=>h x (d_ _ hx);unfold dN;rw[h1];show(c e1).bind _=_;rw[h2];cases hp:p d with
  | true=>
   show(if true=true then k e1 else some []).bind _=_;rw[i_ rfl,h3 hp];show(dN t c k env ds).bind _=_;rw[ih,SM,i_ hp];rfl
  | false=>
   simp only[z_,J_,SA,ih,SV,SM,hp]
theorem dP(h:f env=some d):ax f env=some [d]:=by unfold ax;rw[h];rfl
theorem sV(I:Wf->En->Prop)(g:D->Wf)(B M:Nat):∀(ds:Wf)(acc:Wf)(env:En),I acc env->acc.length+B*ds.length<=M->(∀d∈ds,(g d).length<=B/\∀acc e,I acc e->acc.length+B<=M->∃e1,(t d e).bind body=some (.nx e1)/\I (acc++g d) e1)->
  ∃e2,dA t body ds env=some (.nx e2)/\I (acc++ds.flatMap g) e2
 | [],acc,env,h,_,_=>⟨env,rfl,by simpa using h⟩
 | d::ds,acc,env,h,hl,hb=>by
  obtain⟨b1,b2⟩:=hb d f_;rw[m_,Nat.mul_succ]at hl;obtain⟨e1,h1,h2⟩:=b2 acc env h (by lia);obtain⟨e2,h3,h4⟩:=sV I g B M ds (acc++g d) e1 h2 (by rw[h_];lia) λd' hd=>hb d' (d_ _ hd);refine⟨e2,?_,by rw[S3,<- Su];exact h4⟩;obtain⟨e0,h5,h6⟩:=a_.mp h1;show(t d env).bind (λe1=>(body e1).bind _)=_;rw[h5];show(body e0).bind _=_;rw[h6];exact h3
theorem lO:d∈aU 0 n↔∃i:Nat,i<n/\d=.int i:=by
 unfold aU;simp only[E_,SQ];constructor
 .rintro⟨i,h,rfl⟩;exact⟨i,h,by simp⟩
 .rintro⟨i,h,rfl⟩;exact⟨i,h,by simp⟩
theorem lK(n:Nat):(aU 0 n).length=n:=by simp[aU]
theorem pZ:∀{ds:Wf},(∀d∈ds,ec d<=n)->lj ds<=n
 | [],_=>by unfold lj;lia
 | d::ds,h=>by
  unfold lj;have:=h d f_;have:=pZ λx hx=>h x (d_ _ hx)
  lia
theorem EU(h:∀d∈ds,ec d<=n):ec (.tup ds)<=n+1:=by unfold ec;have:=pZ h;lia
theorem ET(h:∀d∈ds,ec d<=n):ec (.lst ds)<=n+1:=by unfold ec;have:=pZ h;lia
theorem xq(i:Int):ec (.int i)=0:=by unfold ec;rfl
theorem wt(x:Str):ec (.str x)=0:=by unfold ec;rfl
theorem Oq(h1:f env=some d)(h2:g env=some (.lst es))(h3:ec d<=60)(hb:inD d es=b)(h4:(pl d&&gK es)=true:=by rfl):ak (iV false) f g env=some (.bl b):=by
 rw[br h1 h2];show(if ec d<=60/\(pl d&&gK es)=true then _ else _)=_;rw[i_ ⟨h3,h4⟩,<- hb];rfl
theorem Jc(h1:f env=some d)(h2:g env=some e)(h3:fK d e=true)(hb:dO d e=b):ak gv f g env=some (.bl b):=by
 rw[br h1 h2];unfold gv;rw[i_ h3,hb]
theorem HH(h1:f env=some d)(h2:g env=some e)(h3:fK d e=true)(hb:dO d e=b):ak pB f g env=some (.bl !b):=by
 rw[br h1 h2];unfold pB;rw[i_ h3,hb]
theorem Hi(h:ec d<=60)(h2:(pl d&&pl e)=true):fK d e=true:=by unfold fK;rw[h2,x_ h];rfl
theorem HD(h:ec e<=60)(h2:(pl d&&pl e)=true):fK d e=true:=by unfold fK;rw[h2,x_ h,Bool.or_true];rfl
theorem xF(xs:Wf):dO (.lst xs) (.lst [])=xs.isEmpty:=by
 cases xs<;>(unfold dO;rfl)
theorem AJ(h:fs env=some ds):a7 fs env=some (.tup ds):=by unfold a7;rw[h];rfl
theorem F2(h:fs env=some ds):bV fs env=some (.lst ds):=by unfold bV;rw[h];rfl
theorem A3(h:t env=some b)(h1:b=true->f env=some d)(h2:b=false->g env=some d):iteFn t f g env=some d:=by
 unfold iteFn;rw[h];cases b with
 | true=>exact h1 rfl
 | false=>exact h2 rfl
theorem zl(ns:Wf)(k:Nat):cutD ns (some (k:Int)) none=ns.drop k:=by
 unfold cutD;rw[HT.uf,HT.xh]
 by_cases h:k<=ns.length
 .rw[VF h,Tc (by rw[Ul];lia)]
 .rw[Nat.min_eq_right (by lia),Vw,List.drop_of_length_le (by lia)];simp
theorem vM(h:f env=some (.lst xs))(h2:g env=some (.lst ys))(hl:xs.length+ys.length<=16000000):ak j8 f g env=some (.lst (xs++ys)):=by
 rw[br h h2];show(if xs.length+ys.length<=16000000 then _ else _)=_;rw[i_ hl]
theorem nu:∀(bs:List Bool),tD (bs.map .bl)=some bs
 | []=>rfl
 | b::bs=>by show(tD (bs.map .bl)).bind _=_;rw[nu bs];rfl
theorem Am{f:Fe}{env:En}{bs:List Bool}(h:f env=some (.lst (bs.map .bl))):bt vk f env=some (.bl (bs.all id)):=by
 rw[tE h];show(tD (bs.map .bl)).bind _=_;rw[nu];rfl
theorem Ml{f:Fe}{env:En}{bs:List Bool}(h:f env=some (.lst (bs.map .bl))):bt FG f env=some (.bl (bs.any id)):=by
 rw[tE h];show(tD (bs.map .bl)).bind _=_;rw[nu];rfl
theorem qQ(h:f env=some (.lst ds)):setO i f env=some (.nx (env.set i (.O (.L ds)))):=by unfold setO;rw[h];rfl
end Mi
namespace Mi
theorem Bu(h1:f env=some (.bl true)):ky f g env=g env:=by unfold ky;rw[h1];rfl
theorem lr{t:Ft}{d:D}{e e0:En}{b:Fs}{o:Out}(h:t d e=some e0)(h2:b e0=some o):(t d e).bind b=some o:=by rw[h];exact h2
theorem fW(g:D->D)(ds:Wf)(h:∀d∈ds,∃e1,t d env=some e1/\k e1=some [g d]):dN t Wl k env ds=some (ds.map g):=by
 have:=AV (t:=t) (c:=λ_=>some true) (k:=k) (env:=env) (λ_=>true) g ds λd hd=>by
  obtain⟨e1,h1,h2⟩:=h d hd;exact⟨e1,h1,rfl,λ_=>h2⟩
 rwa [Uq.mpr (λ_ _=>rfl)]at this
end Mi
namespace Mi
open PySem PySem.Spec PyProof.Rows L2
def fu(ks:VN)(p:VY):VN:=if p∈ks then ks else ks++[p]
theorem vH(h:kk p=kk q):p=q:=by
 obtain⟨a,b⟩:=p;obtain⟨c,d⟩:=q;unfold kk at h;simp at h;exact Prod.ext h.1 h.2
theorem CM(ks:VN)(p:VY):(fu ks p).length<=ks.length+1:=by
 unfold fu;split<;>simp
theorem jJ:∀{xs:List α}{ys:List β},xs.length=ys.length->(xs.zip ys).map (·.1)=xs
 | [],[],_=>rfl
 | [],_::_,h=>by simp at h
 | _::_,[],h=>by simp at h
 | x::xs,y::ys,h=>by rw[Sv,B_,jJ (by simpa using h)]
theorem ye{α β:Type}{f:α->β}(hf:∀x y,f x=f y->x=y){l:List α}:(l.map f).Nodup↔l.Nodup:=by
 unfold List.Nodup;rw[UH];exact⟨λh=>h.imp λhne e=>hne (by rw[e]),λh=>h.imp λhne e=>hne (hf _ _ e)⟩
def kd(x:VY×V8):Wb×V8×V0:=(kk x.1,x.2,.bool true)
theorem ik.zip{K:Fg}{H:Hp}{ps:VN}{bs:VT}(h:ik K H ps bs):∀x∈ps.zip bs,c7 K H x.2 [.int x.1.1,.int x.1.2]:=λx hx=>by
 obtain⟨i,hi⟩:=T8.mp hx;obtain⟨h1,h2⟩:=Tp.mp hi;exact h.2 i _ _ h1 h2
section
variable {P:V2}{w:V5}{a:V8}{ps:VN}{bs:VT}{h:V4}
end
section
variable {X:Cx}{rg:Gr}{l r:V9}{fa fb:Fe}{ga gb:Gr}{pos p:Pos}{k:Nat}
theorem rM{pins σ H s}(I:Inv X pins σ H s)(hq:c7 X.K H b [.int m,.int n]):(tupleKind (aF X.prog X.w)).is s.heap (kk (m,n)) b:=by
 obtain⟨bu,rv,⟨o,h1,h2,n',h3⟩,_⟩:=I.tuple hq;exact⟨o,bu.toArray,n',h1,h2,h3,by simpa using ki (ks:=kk (m,n)) rv⟩
end
section
variable {X:Cx}{rg:Gr}{pos:Pos}
def ja(i:Nat)(f:Fe):Fs:=λenv=>match env[i]? with
 | some (.O (.L ds))=>(f env).bind λd=>match d with
  | .lst es=>if ds.length+es.length<=16000000 then some (.nx (env.set i (.O (.L (ds++es)))))else none
  | _=>none
 | _=>none
theorem F1(i:Nat)(he:PD X .nw e fe)(hN:X.N[i]?=some x:=by rfl)(hv:qP X.env.scope x:=by first | exact Or.inl rfl | exact Or.inr (Or.inl rfl) | exact Or.inr (Or.inr rfl))
  (hd:(x==("__debug__":Str))=false:=by decide) (eM:(x==("__classdict__":Str))=false:=by decide) (hst:starEach [e] X.env=[(false,eval e X.env)]:=by rfl)
  (fM:attributeBase (.Name x px) "extend" X.env (eval (.Name x px) X.env)=eval (.Name x px) X.env:=by rfl)
  (kG:((backTo bA (starEach [e] X.env)).all (λx=>!x.1)&&(backToKw bA (keywordEach [] X.env)).all (λx=>x.1.isSome)
   && decide (([e]:VU).length+([]:List Keyword).length+(if([]:List Keyword).isEmpty then 0 else 1)<30))=true:=by rfl)
  (fN:(apos.endLine==bA.line)=true:=by rfl)
  (hs:swapsWith (.Call (.Attribute (.Name x px) "extend" apos) [e] [] bA) none pos.line X.env=pure false:=by rfl) :
  SD X rg (.Expr (.Call (.Attribute (.Name x px) "extend" apos) [e] [] bA) pos) (ja i fe):=by
 refine PS.imp (fR (pG SY PySem.F.slot_list_extend PySem.F.type_list_extend y9 (cF hN hv hd eM) (aY he cj hst) fM kG fN hst rfl) hs) λE σ H az=>?_;obtain⟨env,B,Z,o,R,e,k⟩:=az;unfold ja at e
 split at e
 .rename_i ds hi;obtain⟨d,e1,e2⟩:=a_.mp e;cases d<;>try cases e2
  rename_i es;obtain⟨hl,rfl⟩:=rh e2;obtain⟨y,e3,a,o,e4,e5,e6,vs,rfl,r⟩:=R.sl i _ hi;subst e4;refine⟨_,e3,.inl ⟨rfl,vs,cW.of e5⟩,env,B,Z,_,R,e1,λv Z1 H1 x1 g1=>?_⟩;obtain⟨b,us,es',rfl,e7,h1,h2,h3,r2⟩:=g1;cases e7;have R1:=R.ext x1;have r1:=ai.mono x1.z ds r;refine⟨a,b,vs,us,rfl,rfl,x1.h _ _ e5,h2,by rw[<- r.len,<- r2.len,Sr];omega,?_⟩;obtain⟨R2,x2⟩:=R1.wr hi e3 (dq.l (r1.app r2));exact k σ Z1 _ ((x1.part R.bh).transB x2) R2
 .cases e
def insAt(xs:List α)(k:Nat)(y:α):List α:=xs.take k++y::xs.drop k
theorem aw.insAt(r:aw xs us)(ru:RelV y u)(k:Nat):aw (Mi.insAt xs k y) (Mi.insAt us k u):=(r.take k).append (.cons ru (r.drop k))
theorem ai.insAt{K:Fg}{H:Hp}{ds:Wf}{vs:Wh}{d:D}{v:V}(r:ai K H ds vs)(rd:Rep K H d v)(k:Nat):ai K H (Mi.insAt ds k d) (Mi.insAt vs k v):=(r.take k).app (ai.cons rd (r.drop k))
theorem yC(xs:List α)(k:Nat)(y:α):(insAt xs k y).length=xs.length+1:=by
 unfold insAt;rw[h_,m_,Uk,Ul];omega
def rInsert:V->Wh->Hp->VK->Prop:=λx vs H Q=>∃(l:V8)(xs:Wh)(k:Nat)(y:V),x=.ref l/\vs=[.int (k:Int),y]/\H l=some (.lst xs)/\k<=xs.length/\xs.length<sizeLine/\Q .non (upd H l (.lst (insAt xs k y)))
theorem zy:O4 X "list.insert" rInsert:=by
 intro pins s σ H x vs v us Q I rx rv h;obtain⟨l,xs,k,y,rfl,rfl,hH,hk,hz,q⟩:=h;cases rx;obtain⟨u,w,rfl,ru,Jv⟩:=rv.two;obtain⟨t,rfl⟩:=ru;obtain⟨z,bu,n,r,hl,e⟩:=I.lstM hH;have hb:=Sr;have hf:¬(!Builtin.List.listFitsIndex (k:Int))=true:=by
  rw[fitsIndex_both (by omega) (by omega)];exact Sf
 have hsz:bu.toArray.size<=sizeLine:=by rw[t_];omega
 generalize hkk:(k:Int)=kz at hf ⊢;have M:=AutoListH.list_insert_list_int_val_1 l bu.toArray n kz t w hf hsz;refine VE F.slot_list_insert ⟨_,e,rfl⟩ F.entry_list_insert (F.args_list_insert_3 _ _ _) M ⟨e,?_⟩;subst hkk;refine⟨.non,_,I.lset hH e ?_ (aw.insAt r Jv k) (by rw[yC];omega),rfl,q⟩;simp only[t_];rw[j_ (by omega),S7,VF (by omega)];simp[insAt,List.push_toArray,List.extract_toArray,Tc]
def Ca(i:Nat)(fk f:Fe):Fs:=λenv=>match env[i]? with
 | some (.O (.L ds))=>(fk env).bind λkd=>(f env).bind λd=>match kd with
  | .int j=>if 0<=j/\j<=ds.length/\ds.length<16000000 then some (.nx (env.set i (.O (.L (insAt ds j.toNat d)))))else none
  | _=>none
 | _=>none
theorem KC(i:Nat)(hk:PD X .cl ke fk)(he:PD X .cl e fe)(hN:X.N[i]?=some x:=by rfl)(hv:qP X.env.scope x:=by first | exact Or.inl rfl | exact Or.inr (Or.inl rfl) | exact Or.inr (Or.inr rfl))
  (hd:(x==("__debug__":Str))=false:=by decide) (eM:(x==("__classdict__":Str))=false:=by decide) (hst:starEach [ke,e] X.env=(false,eval ke X.env)::starEach [e] X.env:=by rfl) (hst2:starEach [e] X.env=[(false,eval e X.env)]:=by rfl)
  (fM:attributeBase (.Name x px) "insert" X.env (eval (.Name x px) X.env)=eval (.Name x px) X.env:=by rfl)
  (kG:((backTo bA (starEach [ke,e] X.env)).all (λx=>!x.1)&&(backToKw bA (keywordEach [] X.env)).all (λx=>x.1.isSome)
   && decide (([ke,e]:VU).length+([]:List Keyword).length+(if([]:List Keyword).isEmpty then 0 else 1)<30))=true:=by rfl)
  (fN:(apos.endLine==bA.line)=true:=by rfl) (fL:(backTo bA (starEach [e] X.env)).any (·.1)=false:=by rfl)
  (hs:swapsWith (.Call (.Attribute (.Name x px) "insert" apos) [ke,e] [] bA) none pos.line X.env=pure false:=by rfl) :
  SD X rg (.Expr (.Call (.Attribute (.Name x px) "insert" apos) [ke,e] [] bA) pos) (Ca i fk fe):=by
 refine PS.imp (fR (pG SY PySem.F.slot_list_insert PySem.F.type_list_insert zy (cF hN hv hd eM) (aY hk (aY he cj hst2) hst) fM kG fN hst fL) hs) λE σ H az=>?_;obtain⟨env,B,Z,o,R,e,kq⟩:=az;unfold Ca at e
 split at e
 .rename_i ds hi;obtain⟨kd,e1,e⟩:=a_.mp e;obtain⟨d,e2,e⟩:=a_.mp e;cases kd<;>try cases e
  rename_i j _;obtain⟨⟨h0,h1,h2⟩,rfl⟩:=rh e;obtain⟨y,e3,a,o,e4,e5,e6,vs,rfl,r⟩:=R.sl i _ hi;subst e4;refine⟨_,e3,.inl ⟨rfl,vs,cW.of e5⟩,env,B,Z,_,R,e1,λv Z1 H1 x1 g1=>⟨env,B,Z1,_,R.ext x1,e2,λu Z2 H2 x2 g2=>?_⟩⟩;have x12:=x1.trans x2;have R2:=R.ext x12;have hl:=r.len;refine⟨a,vs,j.toNat,u,rfl,by rw[g1.int,Int.toNat_of_nonneg h0],x12.h _ _ e5,by omega,by rw[Sr];omega,?_⟩;obtain⟨R3,x3⟩:=R2.wr hi e3 (dq.l (ai.insAt (ai.mono x12.z ds r) g2 j.toNat));exact kq σ Z2 _ ((x12.part R.bh).transB x3) R3
 .cases e
end
section
variable {X:Cx}{rg:Gr}{l r:V9}{fa fb:Fe}{ga gb:Gr}{pos p p3:Pos}
end
def Nv(lo c:Int)(n:Nat):It:=⟨λi _=>i<n,λi H x H'=>H'=H/\x=.int (lo+i*c),λi _=>n<=i⟩
theorem yU{P:V2}{w:V5}{K:Fg}{tg:V9}(it:V8)(lo c:Int)(n:Nat):Turn P w K tg (Nv lo c n) [it] it (λi h=>IsRangeIter h it (lo+(i:Nat)*c) ((n:Int)-(i:Nat)) c) where
 mem:=by simp
 obj:=λi h st b hb=>by
  have e:b=it:=by simpa using hb
  subst e;exact⟨_,st,λv z=>by have z':Data.fields _=Data.cell v:=z;cases z'⟩
 keep:=λi h h' st k=>k it (by simp) _ st
 item:=by
  intro X hP hw hK hc i pins s σ H E I hf st hg;subst hP hw hK;obtain⟨f0,f1,f2,f3,f4,f5⟩:=hf it (by simp);refine(Walks.range (prog:=X.prog) (w:=X.w) (I.ok.hd hc) it lo c n).item i s _ _ hg st λv h' tk hv nA kk=>?_;obtain⟨t,rfl⟩:=hv;have I1:L2.Inv X pins σ H {s with heap:=h',toks:=tk}:=I.turned (λb o hb e=>kk b o (by simpa using hb) e) f0 f1 f3 f4 f5;exact⟨_,rfl,uo (s:={s with heap:=h',toks:=tk}) (n:="range_iterator") nA rfl rfl (by decide) ⟨.int (lo+i*c),H,I1,⟨t,rfl⟩,⟨rfl,rfl⟩,nA,λb hb=>(hf b hb).1⟩⟩
 done:=by
  intro X hP hw hK hc i pins s σ H E I hf st hg;subst hP hw hK;obtain⟨f0,f1,f2,f3,f4,f5⟩:=hf it (by simp);exact wpAny_pyNext_range_end (I.ok.hd hc) st (by have:n<=i:=hg;lia) λh' eb=>⟨rfl,I.turned (t':=s.toks) (λb o hb e=>eb b o hb e) f0 f1 f3 f4 f5⟩
 self:=λ_ _ _ _ _ st h=>wpAny_pyIter_rangeiter st h
def ib(a b c:Int):Nat:=if a<b then((b-a-1)/c+1).toNat else 0
theorem l7(hc:0<c):Builtin.Range.rangeSize a b c=(ib a b c:Int):=by
 unfold Builtin.Range.rangeSize ib;rw[i_ hc]
 by_cases h:a<b
 .rw[i_ h,i_ h,Int.toNat_of_nonneg];have:=Int.ediv_nonneg (show 0<=b-a-1 by lia) (Int.le_of_lt hc)
  lia
 .rw[j_ h,j_ h];rfl
def dU(i:Int):Bool:=decide (-1000000000<=i/\i<=1000000000)
theorem v8(hc:0<c)(h1:dU a=true)(h2:dU b=true)(h3:dU c=true):Builtin.Range.small a b c=true:=by
 have h1:=H_ h1;have h2:=H_ h2;have h3:=H_ h3;have hn:(b-a-1)/c<=2000000000\/¬a<b:=by
  by_cases h:a<b
  .exact .inl (Int.le_trans (Int.ediv_le_self _ (by lia)) (by lia))
  .exact .inr h
 unfold Builtin.Range.small;rw[l7 hc];have hst:(ib a b c:Int)<=2000000001:=by
  unfold ib
  by_cases h:a<b
  .rw[i_ h];rcases hn with hn | hn
   .lia
   .exact absurd h hn
  .rw[j_ h];decide
 simp only[Builtin.Range.rangeFitsLong,C_,Ux,Sk,TZ];refine⟨⟨⟨⟨⟨by lia,by lia⟩,by lia,by lia⟩,by lia,by lia⟩,by lia,by lia⟩,.inr ?_⟩;rw[i_ hc];simp only[C_,Sk]
 lia
section
variable {X:Cx}{tg:V9}
theorem DH(I:L2.Inv X pins σ H s)(hc:0<c)(h1:dU a=true)(h2:dU b=true)(h3:dU c=true)
  (q:R (Nv a c (ib a b c)) H):wpAny (model X.prog X.w) X.A (pyIter (.ref s.sz)) (OU X pins σ tg R) E {s with heap:=s.heap.push {cls:=.type "range",data:=.fields #[.int a t,.int b u,.int c v]},toks:=tk}:=by
 refine wpAny_pyIter_range (IsRange.new ..) (v8 hc h1 h2 h3) ?_;have I1:L2.Inv X pins σ H {s with heap:=s.heap.push {cls:=.type "range",data:=.fields #[.int a t,.int b u,.int c v]},toks:=tk}:=I.kept λb o e=>e_ _ e;refine⟨(s.heap.push {cls:=.type "range",data:=.fields #[.int a t,.int b u,.int c v]}).objs.size,[(s.heap.push {cls:=.type "range",data:=.fields #[.int a t,.int b u,.int c v]}).objs.size],_,_,H,rfl,
  I1.kept (t':=tk) λb o e=>e_ _ e,yU _ a c (ib a b c),?_,λb' hb=>?_,q⟩
 .rw[l7 hc];show IsRangeIter _ _ (a+((0:Nat):Int)*c) ((ib a b c:Int)-((0:Nat):Int)) c;rw[show a+((0:Nat):Int)*c=a by simp,show(ib a b c:Int)-((0:Nat):Int)=(ib a b c:Int) by simp];exact p_ _ rfl
 .have e:b'=(s.heap.push {cls:=.type "range",data:=.fields #[.int a t,.int b u,.int c v]}).objs.size:=by simpa using hb
  subst e;exact I1.fpOk (l_ _) (I1.hok.fresh (l_ _))
def Lh(ta:TA):TI:=λσ H R=>ta σ H λvs H1=>∃a b c:Int,vs=[.int a,.int b,.int c]/\0<c/\dU a=true/\dU b=true/\dU c=true/\R (Nv a c (ib a b c)) H1
theorem ze(hg:Gl X "range")(hm:X.mg "range"=none)(ha:PA X [x,y,z] ta)(hs:starEach [x,y,z] X.env=(false,eval x X.env)::starEach [y,z] X.env:=by rfl)(fL:(backTo pos (starEach [y,z] X.env)).any (·.1)=false:=by rfl) :
  PI X tg (.Call (.Name "range" p) [x,y,z] [] pos) (Lh ta):=by
 intro pins s σ H R I h;refine Call_ (jg I hg hm boot_range (Tb (bB (ha pos pins s σ H _ I h) λus s1 az=>?_) hs fL));obtain⟨vs,H1,I1,r1,q1⟩:=az;obtain⟨a,b,c,e,hc,h1,h2,h3,q⟩:=q1;subst e;cases r1 with
 | cons r rr=>
  cases rr with
  | cons r' rr=>
   cases rr with
   | cons r'' rr=>
    cases rr;obtain⟨t,rfl⟩:=r;obtain⟨t',rfl⟩:=r';obtain⟨t'',rfl⟩:=r'';have hb:(b-a).natAbs<2 ^ 63:=by
     have h1:=H_ h1;have h2:=H_ h2
     lia
    exact call_range_3 (by lia) (DH I1 hc h1 h2 h3 q) (.inl (PyProof.noPylong_small (by have h3:=H_ h3;lia)))
def sY(a c:Int)(n:Nat):Wf:=(List.range n).map λi=>.int (a+(i:Nat)*c)
theorem zD{K:Fg}{Z1:Hp}(a c:Int)(n:Nat):Walk K Z1 (sY a c n) (Nv a c n):=λZ' H' s1 s2 i=>by
 have hl:(sY a c n).length=n:=by simp[sY]
 rw[hl];refine⟨λhi=>⟨hi,λx H'' az=>?_⟩,λh=>h⟩;obtain⟨e,y⟩:=az;subst e;subst y;exact⟨Z',.int (a+i*c),Ex.refl s2,by simp[sY,hi],rfl⟩
def Ii(f g h:Fe):Fi:=λenv=>(f env).bind λx=>(g env).bind λy=>(h env).bind λz=>match x,y,z with
 | .int a,.int b,.int c=>if(dU a&&dU b&&dU c&&decide (0<c))=true then some (sY a c (ib a b c))else none
 | _,_,_=>none
theorem uh(hm:X.mg "range"=none)(h1:PD X ga x f)(h2:PD X gb y g)(h3:PD X gc z h)(hg:Gl X "range":=by rfl)(hs:starEach [x,y,z] X.env=(false,eval x X.env)::starEach [y,z] X.env:=by rfl)
  (Kp:starEach [y,z] X.env=(false,eval y X.env)::starEach [z] X.env:=by rfl) (zN:starEach [z] X.env=[(false,eval z X.env)]:=by rfl) (fL:(backTo pos (starEach [y,z] X.env)).any (·.1)=false:=by rfl):ID X tg (.Call (.Name "range" p) [x,y,z] [] pos) (Ii f g h):=
 PI.imp (ze hg hm (aY h1 (aY h2 (aY h3 cj zN) Kp) hs) hs fL) λσ H R az=>by
  obtain⟨env,B,Z,ds,Rr,e,k⟩:=az;obtain⟨d1,e1,e⟩:=a_.mp e;obtain⟨d2,e2,e⟩:=a_.mp e;obtain⟨d3,e3,e4⟩:=a_.mp e;cases d1<;>try cases e4
  cases d2<;>try cases e4
  cases d3<;>try cases e4
  obtain⟨hj,rfl⟩:=rh e4;simp only[C_,Sk]at hj;refine⟨env,B,Z,_,Rr,e1,λv Z1 H1 x1 g1=>⟨env,B,Z1,_,Rr.ext x1,e2,λu Z2 H2 x2 g2=>⟨env,B,Z2,_,(Rr.ext x1).ext x2,e3,λw Z3 H3 x3 g3=>?_⟩⟩⟩;exact⟨_,_,_,by rw[g1.int,g2.int,g3.int],hj.2,hj.1.1.1,hj.1.1.2,hj.1.2,k _ Z3 H3 ((x1.trans x2).trans x3) (zD _ _ _)⟩
end
section
variable {prog:V2}{w:V5}{A:V3}{E:VH}{s:V1}{e i l:V8}{k:Nat}{xs:VP}{x old:V0}{it:Nat->V4->Prop}{at_:VP->V4->Prop}
theorem Cv{Q:VH}(S:Src prog w i l it at_)(he:IsEnum s.heap e i k old)(hit:it k s.heap)(GY:at_ xs s.heap)(hx:xs[k]?=some x)(hne:e≠i)
  (hQ:∀(g h':V4),IsEnumOut h' e i ((k:Int)+1) x s.sz->it (k+1) h'->g.objs.size=s.sz->(∀b o,b≠e->b≠i->s.heap.get? b=some o->g.get? b=some o)->
   (∀b o,b≠e->(g.push {cls:=.type "tuple",data:=.seq #[.int k s.toks,x]}).get? b=some o->h'.get? b=some o)->Q (.ref s.sz) {s with heap:=h',toks:=s.toks+1}) :
  wpAny (model prog w) A (Builtin.«enumerate.__next__» ⟨[.ref e],[]⟩) (λf s'=>∃v,f=.done (.ret v)/\Q v s') E s:=by
 obtain⟨hp,gn,d,tk,os⟩:=s;refine(show wpAny _ _ (field (.ref e) 2 >>= _) _ _ _ from b_ (TC he rfl rfl (b_ (S.nxt hit GY hx λg1 Rm s1=>?_))))
 replace s1:Heap.SameBut i hp g1:=s1
 have PJ:IsEnum g1 e i k old:=(s1.2 e hne).trans he;refine(show wpAny _ _ (field (.ref e) 3 >>= _) _ _ ⟨g1,gn,d,tk,os⟩from b_ (TC PJ rfl rfl ?_));refine(show wpAny _ _ (field (.ref e) 4 >>= _) _ _ ⟨g1,gn,d,tk,os⟩from b_ (TC PJ rfl rfl ?_));refine(show wpAny _ _ (mkInt k >>= _) _ _ ⟨g1,gn,d,tk,os⟩from b_ (wpAny_mkInt ?_));refine(show wpAny _ _ (setField (.ref e) 3 (rawInt ((k:Int)+1)) >>= _) _ _ ⟨g1,gn,d,tk+1,os⟩from b_ (Tn PJ (by simp) λg2 uF s2=>?_))
 replace s2:Heap.SameBut e g1 g2:=s2
 replace uF:IsEnum g2 e i ((k:Int)+1) old:=uF
 refine(show wpAny _ _ (setField (.ref e) 4 .none >>= _) _ _ ⟨g2,gn,d,tk+1,os⟩from b_ (Tn uF (by simp) λg3 M4 s3=>?_))
 replace s3:Heap.SameBut e g2 g3:=s3
 replace M4:IsEnum g3 e i ((k:Int)+1) old:=M4
 refine(show wpAny _ _ (newTuple [.int k tk,x] >>= _) _ _ ⟨g3,gn,d,tk+1,os⟩from b_ (wpAny_newTuple ?_));have N5:IsEnum (g3.push {cls:=.type "tuple",data:=.seq #[.int k tk,x]}) e i ((k:Int)+1) old:=e_ _ M4;have hit3:it (k+1) g3:=S.itx (S.itx Rm (Kf s2.extBut (SR hne))) (Kf s3.extBut (SR hne));have M5:it (k+1) (g3.push {cls:=.type "tuple",data:=.seq #[.int k tk,x]}):=S.itx hit3 λo q=>e_ _ q;have hsz:g3.objs.size=hp.objs.size:=by rw[s3.1,s2.1,s1.1]
 have hk3:∀b o,b≠e->b≠i->hp.get? b=some o->g3.get? b=some o:=λb o b1 b2 q=>s3.extBut b o b1 (s2.extBut b o b1 (s1.extBut b o b2 q));generalize hh:g3.push {cls:=.type "tuple",data:=.seq #[.int k tk,x]}=g4 at N5 M5;refine(show wpAny _ _ (Builtin.SmallTypes.ownedTupleIsFree (.ref e) >>= _) _ _ ⟨g4,gn,d,tk+1,os⟩from ?_);rw[hsz];refine b_ ?_;unfold Builtin.SmallTypes.ownedTupleIsFree;refine b_ (TC N5 rfl rfl (g_ ?_));simp only[TK];refine b_ (Vb (b_ (TC N5 rfl rfl (b_ (Tn N5 (by simp) λg5 he5 s5=>?_)))))
 replace s5:Heap.SameBut e g4 g5:=s5
 replace he5:IsEnum g5 e i ((k:Int)+1) x:=he5
 refine(show wpAny _ _ (Builtin.SmallTypes.ownedTupleHandOut (.ref e) (.ref hp.objs.size) >>= _) _ _ ⟨g5,gn,d,tk+1,os⟩from b_ ?_);unfold Builtin.SmallTypes.ownedTupleHandOut;refine b_ (Tn he5 (by simp) λg6 he6 s6=>?_)
 replace s6:Heap.SameBut e g5 g6:=s6
 replace he6:IsEnumOut g6 e i ((k:Int)+1) x hp.objs.size:=he6
 refine Tn he6 (by simp) λg7 he7 s7=>?_
 replace s7:Heap.SameBut e g6 g7:=s7
 replace he7:IsEnumOut g7 e i ((k:Int)+1) x hp.objs.size:=he7
 refine b_ (Vo (g_ ⟨_,rfl,hQ g3 g7 he7 (S.itx (S.itx (S.itx M5 (Kf s5.extBut (SR hne))) (Kf s6.extBut (SR hne))) (Kf s7.extBut (SR hne))) hsz hk3 λb o b1 q=>?_⟩));rw[hh]at q;exact s7.extBut b o b1 (s6.extBut b o b1 (s5.extBut b o b1 q))
theorem Bq(S:Src prog w i l it at_)(he:IsEnum s.heap e i k old)(hit:it k s.heap)(GY:at_ xs s.heap)(hx:xs[k]?=some x)(hne:e≠i)
  (hQ:∀(g h':V4),IsEnumOut h' e i ((k:Int)+1) x s.sz->it (k+1) h'->g.objs.size=s.sz->(∀b o,b≠e->b≠i->s.heap.get? b=some o->g.get? b=some o)->
   (∀b o,b≠e->(g.push {cls:=.type "tuple",data:=.seq #[.int k s.toks,x]}).get? b=some o->h'.get? b=some o)->Q (some (.ref s.sz)) {s with heap:=h',toks:=s.toks+1}):wpAny (model prog w) A (pyNext (.ref e)) Q E s:=by
 have hT:s.TypeIs (.ref e) "enumerate":=⟨_,he,rfl⟩;unfold pyNext;exact b_ (Vu (SZ hT T_ (SL T_ hT F.entry_enumerate_next (Cv S he hit GY hx hne λg h' b1 b2 b3 b4 b5=>g_ (hQ g h' b1 b2 b3 b4 b5)) (F.args_enumerate_next_1 _))))
theorem Au(hh:A.handled=none)(S:Src prog w i l it at_)(he:IsEnum s.heap e i k old)(hit:it k s.heap)(GY:at_ xs s.heap)(hx:xs[k]?=none)
  (hQ:∀h',Heap.ExtBut i s.heap h'->Q none {s with heap:=h'}):wpAny (model prog w) A (pyNext (.ref e)) Q E s:=by
 have hT:s.TypeIs (.ref e) "enumerate":=⟨_,he,rfl⟩;unfold pyNext;refine b_ (Vu (SZ hT T_ (SL T_ hT F.entry_enumerate_next ?_ (F.args_enumerate_next_1 _))));refine(show wpAny _ _ (field (.ref e) 2 >>= _) _ _ _ from b_ (TC he rfl rfl (b_ (S.fin hh hit GY hx λh' y MD hy=>?_))));obtain⟨o,ho,hc⟩:=hy;exact b_ (wpAny_isInstance ⟨o,ho,hc⟩ isSubtype_stop (g_ (hQ _ MD)))
theorem IH{es:VU}{x1:Nat}{pos:Pos}{n:Int}{T:V8}{Q:Unit->V1->Prop}(he:IsEnumOut s.heap e i n x T)(hQ:∀h',IsEnum h' e i n x->Heap.SameBut e s.heap h'->Q () {s with heap:=h'}) :
  wpAny (model prog w) A (letOwnedTupleGo (.Tuple es x1 pos) (.ref e) (.ref T)) Q E s:=by
 unfold letOwnedTupleGo;refine b_ (wpAny_load he ?_);show wpAny _ _ (if(["enumerate","zip","dict_itemiterator","dict_reverseitemiterator","odict_iterator","itertools.zip_longest","itertools.pairwise"].contains "enumerate"&&(#[rawInt T,.bool false,.ref i,rawInt n,.none,x]:Array V0)[0]?==some (rawInt T))=true then _ else _) Q E s;rw[i_ (by simp)];exact b_ (Vb (show wpAny _ _ (setField (.ref e) 0 .none) Q E s from Tn he (by simp) λh' MD hs'=>hQ h' MD hs'))
end
def NA(S:Hp->Wh->Prop):It:=
 ⟨λi H=>∃xs x,S H xs/\xs[i]?=some x,
  λi H v H'=>∃(q:V8),H q=none/\v=.ref q/\∀xs x,S H xs->xs[i]?=some x->H'=upd H q (.tup [.int (i:Nat),x]),
  λi H=>∃xs,S H xs/\xs.length<=i⟩
theorem oN{P:V2}{w:V5}{K:Fg}{es:VU}{k:Nat}{pos:Pos}{e i l:V8}{it:Nat->V4->Prop}{at_:VP->V4->Prop}{S:Hp->Wh->Prop}(W:Src P w i l it at_)(K1:PH K l S at_)(hne:e≠i) :
  Turn P w K (.Tuple es k pos) (NA S) [e,i] e (λn h=>(∃old,IsEnum h e i (n:Nat) old)/\it n h) where
 mem:=by simp
 obj:=λn h ⟨⟨old,he⟩,h1⟩ c hc=>by
  simp only[o_,Td,Vx]at hc;rcases hc with rfl | rfl
  .exact⟨_,he,λv q=>by cases q⟩
  .exact W.obj h1
 keep:=λn h h' ⟨⟨old,he⟩,h1⟩ kk=>⟨⟨old,kk e (by simp) _ he⟩,W.itx h1 λo q=>kk i (by simp) o q⟩
 item:=by
  intro X hP hw hK hc n pins s σ H E I hf st hg;subst hP hw;obtain⟨⟨old,he⟩,h1⟩:=st;obtain⟨xs,x,q1,hx⟩:=hg;obtain⟨us,r1,m1⟩:=K1.get hK I q1;obtain⟨u,hu,ru⟩:=r1.get hx;refine Bq W he h1 m1 hu hne λg g' b1 b2 b3 b4 b5=>?_;have hT:H s.sz=none:=I.hok.fresh (l_ _);have ne:∀c∈[e,i],c<s.sz:=λc hc=>by
   simp only[o_,Td,Vx]at hc;rcases hc with rfl | rfl
   .exact r_ he
   .obtain⟨o,ho,_⟩:=W.obj h1;exact r_ ho
  have I1:L2.Inv X pins σ H {s with heap:=g,toks:=s.toks+1}:=lM I hf λc o hc q=>b4 c o (λz=>hc (by simp[z])) (λz=>hc (by simp[z])) q;have I2:L2.Inv X pins σ (upd H g.objs.size (.tup [.int n,x])) {s with heap:=g.push {cls:=.type "tuple",data:=.seq #[.int n s.toks,u]},toks:=s.toks+1}:=
   I1.laid (λc o q=>e_ _ q) (l_ _) (show bp X.prog X.w _ _ _ (.tup [.int n,x])from⟨by have:=Sr;simp;lia,[.int n s.toks,u],.cons ⟨_,rfl⟩ (.cons ru .nil),IsTup.new _ _⟩)
  rw[b3]at I2;have fz:∀c∈[e,i],bQ X pins (upd H s.sz (.tup [.int n,x])) c:=λc hc=>⟨by rw[au (w_ (ne c hc))];exact(hf c hc).1,(hf c hc).2⟩;have I3:L2.Inv X pins σ (upd H s.sz (.tup [.int n,x])) {s with heap:=g',toks:=s.toks+1}:=lM (s:={s with heap:=g.push {cls:=.type "tuple",data:=.seq #[.int n s.toks,u]},toks:=s.toks+1}) (ch:=[e]) I2 (λc hc=>fz c (by simp at hc;simp[hc])) λc o hc q=>b5 c o (λz=>hc (by simp[z])) q;refine⟨_,rfl,IH b1 λg2 uF s2=>?_⟩;have I4:L2.Inv X pins σ (upd H s.sz (.tup [.int n,x])) {s with heap:=g2,toks:=s.toks+1}:=lM (s:={s with heap:=g',toks:=s.toks+1}) (ch:=[e]) I3 (λc hc=>fz c (by simp at hc;simp[hc])) λc o hc q=>s2.extBut c o (λz=>hc (by simp[z])) q;refine⟨.ref s.sz,_,I4,rfl,⟨s.sz,hT,rfl,λxs' x' p1 nF=>?_⟩,⟨⟨u,uF⟩,W.itx b2 (Kf s2.extBut (SR hne))⟩,λc hc=>(fz c hc).1⟩;cases K1.inj hK I q1 p1;rw[hx]at nF;cases nF
  rfl
 done:=by
  intro X hP hw hK hc n pins s σ H E I hf st hg;subst hP hw;obtain⟨⟨old,he⟩,h1⟩:=st;obtain⟨xs,q1,hl⟩:=hg;obtain⟨us,r1,m1⟩:=K1.get hK I q1;have e1:=r1.length;refine Au (I.ok.hd hc) W he h1 m1 (So (by lia)) λg' kk=>⟨rfl,?_⟩;exact lM (ch:=[i]) I (λc hc=>hf c (by simp at hc;simp[hc])) λc o hc q=>kk c o (λz=>hc (by simp[z])) q
 self:=λ_ n _ _ _ ⟨⟨_,he⟩,_⟩ h=>Vp he h
abbrev QO(c:String)(h:V4)(l:V8):V4:=(NR c h l).push {cls:=.type "enumerate",data:=.fields #[.none,.bool false,.ref h.objs.size,rawInt 0,.none,.none]}
theorem yG(l:V8)(items:Array V0)(n:Nat)(dct:VR)(sl:VJ):Meets (Builtin.«enumerate.__new__» ⟨[.type "enumerate",.ref l],[]⟩) (λ_ R s=>s.heap.get? l=some {cls:=.type "tuple",dict:=dct,data:=.seq items n,slots:=sl}/\
   R (.ok (.ret (.ref (NR "tuple_iterator" s.heap l).objs.size))) {s with heap:=QO "tuple_iterator" s.heap l}):=
 .of_wp λprog w A R s h=>by
  obtain⟨hp,g,d,tk,os⟩:=s;obtain⟨hl,h⟩:=h;have hsub:=sub_enumerate;have hL:Heap.IsTuple (Shared.heap ⟨hp,g,d,tk,os⟩) l items:=⟨_,hl,rfl,n,rfl⟩
  wp_walk using TH hl
  refine wpAny_stack_any λst=>g_ ?_
  split
  .rename_i c _ _ _ _ _;cases(c==Value.type "enumerate")
   .wp_walk using TH hl,TY hL
    exact⟨_,rfl,h⟩
   .wp_walk using TH hl,TY hL
    exact⟨_,rfl,h⟩
  .wp_walk using TH hl,TY hL
   exact⟨_,rfl,h⟩
theorem vg(hL:s.heap.IsTuple l items)
  (h:∀h',IsEnum h' (s.sz+1) s.sz 0 .none->h'.IsTupleIter s.sz l 0->(∀b o,s.heap.get? b=some o->h'.get? b=some o)->Q (.ref (s.sz+1)) {s with heap:=h'}) :
  wpAny (model prog w) A (call (.type "enumerate") [.ref l]) Q E s:=by
 obtain⟨⟨c,dct,dt,sl⟩,hl,hc,n,hd⟩:=hL
 replace hc:c=.type "tuple":=hc
 replace hd:dt=.seq items n:=hd
 subst hc hd;refine callType_new F.called_enumerate (by decide) (F.typeCall_enumerate_1 _) (F.newCall_enumerate_1 _) (λobj=>F.args_object_init_2 obj _) F.entry_enumerate_new (yG l items n dct sl) ⟨hl,?_⟩;have hz:(NR "tuple_iterator" s.heap l).objs.size=s.sz+1:=Ti ..;show _/\_;rw[hz];have he:IsEnum (QO "tuple_iterator" s.heap l) (s.sz+1) s.sz 0 .none:=by
  have:=p_ (NR "tuple_iterator" s.heap l) (o:={cls:=.type "enumerate",data:=.fields #[.none,.bool false,.ref s.sz,rawInt 0,.none,.none]}) rfl;rw[hz]at this;exact this
 exact⟨⟨_,he,rfl⟩,h _ he ⟨_,e_ _ (p_ _ rfl),rfl,rfl⟩ λb o x=>e_ _ (e_ _ x)⟩
section
variable {X:Cx}{es:VU}{kk:Nat}{tp:Pos}
theorem u6:bootBuiltins "enumerate"=some (.type "enumerate"):=by decide +kernel
def KO(K:Fg)(ta:TA):TI:=λσ H R=>ta σ H λvs H1=>∃(l:V8)(xs:Wh),vs=[.ref l]/\((c7 K H1 l xs/\R (NA (λH xs=>c7 K H l xs)) H1)\/(cW K H1 l xs/\R (NA (λH xs=>cW K H l xs)) H1))
theorem Eu(hg:Gl X "enumerate")(hm:X.mg "enumerate"=none)(ha:PA X [a] ta)(hs:starEach [a] X.env=[(false,eval a X.env)]:=by rfl):PI X (.Tuple es kk tp) (.Call (.Name "enumerate" p) [a] [] pos) (KO X.K ta):=by
 intro pins s σ H R I h;refine Call_ (jg I hg hm u6 (Tb (bB (ha pos pins s σ H _ I h) λus s1 az=>?_) hs rfl));obtain⟨vs,H1,I1,r1,q1⟩:=az;obtain⟨l,xs,e,q⟩:=q1;subst e;obtain⟨u,rfl,ru⟩:=vals1 r1;cases ru;have fp:∀b∈[s1.sz+1,s1.sz],bQ X pins H1 b:=λb hb=>by
  have jl:s1.sz<=b:=by
   simp only[o_,Td,Vx]at hb;rcases hb with rfl | rfl
   .exact UC _
   .exact l_ _
  exact I1.fpOk jl (I1.hok.fresh jl)
 rcases q with ⟨m,q⟩ | ⟨m,q⟩
 .obtain⟨us,_,p1,_⟩:=I1.tuple m;refine vg (show s1.heap.IsTuple l us.toArray from p1) λh' he hi old=>Vp he ?_;exact⟨s1.sz+1,_,_,_,H1,rfl,I1.kept old,oN (Oi _ _) (OW l) (Vy _),⟨⟨_,he⟩,hi⟩,fp,q⟩
 .obtain⟨us,_,p1,_⟩:=I1.list m;refine call_enumerate_list p1.isList λh' he hi _ old=>Vp he ?_;exact⟨s1.sz+1,_,_,_,H1,rfl,I1.kept old,oN (OH _ _) (Os l) (Vy _),⟨⟨_,he⟩,hi⟩,fp,q⟩
def lb:Nat->Wf->Wf
 | _,[]=>[]
 | n,d::ds=>.tup [.int (n:Int),d]::lb (n+1) ds
theorem jy:∀(n:Nat)(ds:Wf),(lb n ds).length=ds.length
 | _,[]=>rfl
 | n,d::ds=>by simp[lb,jy (n+1) ds]
theorem lZ:∀{n:Nat}{ds:Wf}{i:Nat}{d:D},ds[i]?=some d->(lb n ds)[i]?=some (.tup [.int ((n+i:Nat):Int),d])
 | n,[],i,d,h=>by simp at h
 | n,x::ds,0,d,h=>by cases h;rfl
 | n,x::ds,i+1,d,h=>by
  show(lb (n+1) ds)[i]?=_;rw[lZ (by simpa using h),show n+1+i=n+(i+1) by lia]
theorem o5{K:Fg}{Z1:Hp}{S:Hp->Wh->Prop}{vs:Wh}{xs:Wf}(m1:∀{H H'},aD H H'->S H vs->S H' vs)(q1:S Z1 vs)(r1:ai K Z1 xs vs):Walk K Z1 (lb 0 xs) (NA S):=λZ' H' s1 s2 i=>by
 have l1:=r1.len;have w1:=m1 (s1.trans s2) q1;rw[jy];refine⟨λhi=>?_,λhi=>⟨vs,w1,by lia⟩⟩;have h1:i<vs.length:=by lia
 refine⟨⟨vs,vs[i],w1,v_ h1⟩,λx H'' ⟨q,hq,e,hy⟩=>?_⟩;subst e;have e2:=hy vs _ w1 (v_ h1);subst e2;obtain⟨d1,e1,p1⟩:=r1.getV (v_ h1);have s3:aD Z' (upd Z' q (.tup [.int (i:Nat),vs[i]])):=dj (s2.free hq);exact⟨_,_,Ex.new s2 hq,lZ e1,q,_,rfl,c7.of av,ai.mono s3 _ ⟨_,_,rfl,by rw[Tt];rfl,_,_,rfl,Rep.mono s1 _ p1,rfl⟩⟩
def Mz(f:Fe):Fi:=λenv=>(f env).bind λd=>match d with
 | .tup xs=>some (lb 0 xs)
 | .lst xs=>some (lb 0 xs)
 | _=>none
theorem Ck(hm:X.mg "enumerate"=none)(h:PD X .cl l f)(hg:Gl X "enumerate":=by rfl)(hs:starEach [l] X.env=[(false,eval l X.env)]:=by rfl):ID X (.Tuple es kk tp) (.Call (.Name "enumerate" p) [l] [] pos) (Mz f):=
 PI.imp (Eu hg hm (aY h cj hs) hs) λσ H R az=>by
  obtain⟨env,B,Z,ds,Rr,e,k⟩:=az;obtain⟨d,e1,e2⟩:=a_.mp e;cases d<;>cases e2
  .refine⟨env,B,Z,_,Rr,e1,λv Z1 H1 x1 g1=>?_⟩;obtain⟨l1,vs,rfl,w1,r1⟩:=g1;exact⟨l1,vs,rfl,.inl ⟨cI x1.zh w1,k _ Z1 H1 x1 (o5 (λs q=>cI s q) w1 r1)⟩⟩
  .refine⟨env,B,Z,_,Rr,e1,λv Z1 H1 x1 g1=>?_⟩;obtain⟨l1,vs,rfl,w1,r1⟩:=g1;exact⟨l1,vs,rfl,.inr ⟨x1.zh.seq w1,k _ Z1 H1 x1 (o5 (λs q=>s.seq q) w1 r1)⟩⟩
end
end Mi
namespace Mi
open PySem PySem.Spec PyProof.Rows L2
section
variable {X:Cx}{l r:V9}{fa fb:Fe}{ga gb:Gr}{pos p:Pos}{k:Nat}
def GC(K:Fg):R2:=λx y H Q=>∃a b xs ys,x=.ref a/\y=.ref b/\c7 K H a xs/\c7 K H b ys/\xs.length+ys.length<=sizeLine/\(xs=[]->Q (.ref b) H)/\(xs≠[]->ys=[]->Q (.ref a) H)/\(xs≠[]->ys≠[]->∀p,H p=none->Q (.ref p) (upd H p (.tup (xs++ys))))
theorem D0:jn X (binaryOp .Add) (GC X.K):=by
 intro pins s σ H x y v u Q I rx ry h;obtain⟨a,b,xs,ys,rfl,rfl,ha,hb,hz,q0,q1,q2⟩:=h
 by_cases hx:xs=[]
 .cases rx;cases ry;obtain⟨bu,r1,p1,_⟩:=I.tuple ha;obtain⟨uH,r2,p2,_⟩:=I.tuple hb;obtain⟨⟨cls,dd,data,sl⟩,ho,hc,n,hd⟩:=id p1;obtain⟨⟨Jw,FP,data2,Dr⟩,Ds,r6,n2,hd2⟩:=id p2;simp only at hc hd r6 hd2;subst hc hd r6 hd2;have hi:bu=[]:=r1.nil_iff.mpr hx;exact concat_meets ⟨_,ho,rfl⟩ ⟨_,Ds,rfl⟩ noFill_tuple_add seq_tuple_add UJ UD (Ut _ _) (tuple_addW0 a b bu.toArray uH.toArray n n2 dd FP sl Dr (by simp[hi])) ⟨ho,Ds,⟨.ref b,H,I,rfl,q0 hx⟩⟩
 .exact Fq pins s σ H _ _ v u Q I rx ry ⟨a,b,xs,ys,rfl,rfl,ha,hb,hx,hz,q1 hx,q2 hx⟩
def tR:D->D->Wg
 | .tup xs,.tup ys=>if xs.length+ys.length<=16000000 then some (.tup (xs++ys))else none
 | _,_=>none
theorem ai.nil_iff{K:Fg}{H:Hp}{ds:Wf}{vs:Wh}(h:ai K H ds vs):vs=[]↔ds=[]:=by
 have:=h.len;cases ds<;>cases vs<;>simp at this ⊢
theorem G2{K:Fg}:cX K .cl tR (GC K):=λ{Z H x y dx dy d Q} s h1 h2 e kq=>by
 cases dx<;>try cases e
 all_goals (cases dy<;>try cases e)
 rename_i xs ys;obtain⟨hl,rfl⟩:=rh e;rcases h1 with h1 | ⟨_,_,_,_,e1,_⟩ | ⟨_,_,_,e1,_⟩ | ⟨_,_,_,_,_,e1,_⟩
 .rcases h2 with h2 | ⟨_,_,_,_,e1,_⟩ | ⟨_,_,_,e1,_⟩ | ⟨_,_,_,_,_,e1,_⟩
  .obtain⟨a,vs,rfl,q1,r1⟩:=id h1;obtain⟨b,us,rfl,q2,r2⟩:=id h2;refine⟨a,b,vs,us,rfl,rfl,cI s q1,cI s q2,by rw[<- r1.len,<- r2.len,Sr];lia,λz=>?_,λz1 z=>?_,λz1 z2 p hp=>?_⟩
   .have hx:=r1.nil_iff.mp z;subst hx;exact kq _ Z H (Ex.refl s) h2
   .have hy:=r2.nil_iff.mp z;subst hy;rw[G_]at kq;exact kq _ Z H (Ex.refl s) h1
   .have s1:aD Z (upd Z p (.tup (vs++us))):=dj (s.free hp);exact kq _ _ _ (Ex.new s hp) ⟨p,_,rfl,c7.of av,ai.mono s1 _ (r1.app r2)⟩
  .cases e1
  .cases e1
  .cases e1
 .cases e1
 .cases e1
 .cases e1
theorem Co(ha:PD X ga l fa)(hb:PD X gb r fb):PD X .cl (.BinOp l .Add r pos) (ak tR fa fb):=sJ D0 G2 ha hb
end
def ER:Key->Key->Option Bool
 | .inl a,.inl b=>some (decide (a<b))
 | .inr a,.inr b=>some (decide (a.cps.toList<b.cps.toList))
 | _,_=>none
def fF:Wb->Wb->Option Bool
 | [],[]=>some false
 | [],_::_=>some true
 | _::_,[]=>some false
 | x::xs,y::ys=>if x=y then fF xs ys else ER x y
inductive cV:List Value->List Key->Prop
 | nil:cV [] []
 | int (n:Int) (t:Tok) {vs ks}:cV vs ks->cV (.int n t::vs) (.inl n::ks)
 | str (x:Str) (t:Tok) {vs ks}:cV vs ks->cV (.str x t::vs) (.inr x::ks)
theorem cV.length:∀{vs:VP}{ks:Wb},cV vs ks->vs.length=ks.length
 | _,_,.nil=>rfl
 | _,_,.int _ _ h=>by simp[cV.length h]
 | _,_,.str _ _ h=>by simp[cV.length h]
theorem cV.of:∀{ks:Wb}{us:VP},aw (ks.map kV) us->cV us ks
 | [],_,r=>by rw[TV]at r;cases r;exact .nil
 | .inl n::ks,_,r=>by
  rw[B_]at r;cases r with
  | cons h t=>obtain⟨tk,rfl⟩:=(show ∃t,_=Value.int n t from h);exact .int n tk (cV.of t)
 | .inr x::ks,_,r=>by
  rw[B_]at r;cases r with
  | cons h t=>obtain⟨tk,rfl⟩:=(show ∃t,_=Value.str x t from h);exact .str x tk (cV.of t)
theorem Ci(A:V3)(s:V1)(a:Str)(t:Tok)(c:Str)(u:Tok)(prog:V2)(w:V5)(E:VH)(Q:VH)(h:Q (.bool (decide (a.cps.toList<c.cps.toList))) s) :
  wpAny (model prog w) A (richCompare .Lt (.str a t) (.str c u)) Q E s:=
 (PyProof.Rows.lt_str h:wpAny (model prog w) A (compareOp .Lt (.str a t) (.str c u)) Q E s)
section
open PySem.SeqAt
open PySem.AutoSeq1 (wpAny_loadPart')
open PySem.MeetsSeq PySem.MeetsSeq2 PySem.MeetsSeq3
end
section
variable {X:Cx}{l r:V9}{fa fb:Fe}{ga gb:Gr}{pos p:Pos}{k:Nat}
def oE:Wf->Option Wb
 | []=>some []
 | .int i::r=>(oE r).bind λks=>some (.inl i::ks)
 | .str x::r=>(oE r).bind λks=>some (.inr x::ks)
 | _=>none
theorem fJ{K:Fg}{H:Hp}:∀{ds:Wf}{ks:Wb}{vs:Wh},oE ds=some ks->ai K H ds vs->vs=ks.map kV
 | [],ks,vs,h,r=>by cases h;exact r
 | d::ds,ks,vs,h,r=>by
  obtain⟨v,rr,e,h1,h2⟩:=r;subst e;cases d<;>try cases h
  .obtain⟨Jz,e1,e2⟩:=a_.mp h;cases e2;cases(show v=_ from h1);rw[fJ e1 h2];rfl
  .obtain⟨Jz,e1,e2⟩:=a_.mp h;cases e2;cases(show v=_ from h1.1);rw[fJ e1 h2];rfl
end
end Mi
namespace Mi
open PySem PySem.Spec PyProof.Rows L2
section
variable {prog:V2}{w:V5}{A:V3}{E:VH}{s:V1}{z TI TO i1 i2 l1 l2 T:V8}{k1 k2:Nat}{xs ys:VP}{x y:V0}{oT:Obj}{bz:Bool}
end
section
variable {prog:V2}{w:V5}{A:V3}{E:VH}{s:V1}{z TI TO i1 i2 l1 l2:V8}{xs ys:VP}
end
section
variable {X:Cx}{l r:V9}{fa fb:Fe}{pos pos2 p p2:Pos}
end
section
variable {X:Cx}
theorem zF(hc:X.calm=true):dv X (.builtin "max") (λxs H Q=>∃i j k,xs=[.int i,.int j,.int k]/\Q (.int (if j>i then(if k>j then k else j)else(if k>i then k else i))) H):=by
 intro pins s σ H xs us Q I r h;obtain⟨i,j,k,rfl,q⟩:=h;cases r with
 | cons h1 r=>
  cases r with
  | cons h2 r=>
   cases r with
   | cons h3 r=>
    cases r;obtain⟨t1,rfl⟩:=(show ∃t,_=Value.int i t from h1);obtain⟨t2,rfl⟩:=(show ∃t,_=Value.int j t from h2);obtain⟨t3,rfl⟩:=(show ∃t,_=Value.int k t from h3);refine max_three_ints (I.ok.hd hc) λh' tk kk=>⟨_,H,I.kept kk,?_,q⟩
    by_cases hj:j>i
    .rw[i_ hj,i_ hj]
     by_cases hk:k>j
     .rw[i_ hk,i_ hk];exact⟨_,rfl⟩
     .rw[j_ hk,j_ hk];exact⟨_,rfl⟩
    .rw[j_ hj,j_ hj]
     by_cases hk:k>i
     .rw[i_ hk,i_ hk];exact⟨_,rfl⟩
     .rw[j_ hk,j_ hk];exact⟨_,rfl⟩
def OY(b:D->D->D->Wg)(fa fb fc:Fe):Fe:=λenv=>(fa env).bind λx=>(fb env).bind λy=>(fc env).bind λz=>b x y z
def zW:D->D->D->Wg
 | .int i,.int j,.int k=>some (.int (if j>i then(if k>j then k else j)else(if k>i then k else i)))
 | _,_,_=>none
variable {l r q:V9}{fa fb fc:Fe}{ga gb gc:Gr}{pos p:Pos}
theorem Cj(hm:X.mg "max"=none)(bq:X.calm=true)(ha:PD X ga l fa)(hb:PD X gb r fb)(hc:PD X gc q fc)(hg:Gl X "max":=by rfl)
  (he:starEach [l,r,q] X.env=(false,eval l X.env)::starEach [r,q] X.env:=by rfl) (uF:starEach [r,q] X.env=(false,eval r X.env)::starEach [q] X.env:=by rfl) (M4:starEach [q] X.env=[(false,eval q X.env)]:=by rfl) (fL:(backTo pos (starEach [r,q] X.env)).any (·.1)=false:=by rfl) :
  PD X .cl (.Call (.Name "max" p) [l,r,q] [] pos) (OY zW fa fb fc):=
 PE.imp (jL (zF bq) hg hm UO (aY ha (aY hb (aY hc cj M4) uF) he) (by decide) (by decide) he fL) λσ H Q az=>by
  obtain⟨env,B,Z,d,R,e,k⟩:=az;obtain⟨x,h1,e⟩:=a_.mp e;obtain⟨y,h2,e⟩:=a_.mp e;obtain⟨z,h3,e⟩:=a_.mp e;cases x<;>try cases e
  cases y<;>try cases e
  cases z<;>try cases e
  refine⟨env,B,Z,_,R,h1,λv Z1 H1 x1 g1=>⟨env,B,Z1,_,R.ext x1,h2,λu Z2 H2 x2 g2=>⟨env,B,Z2,_,(R.ext x1).ext x2,h3,λw Z3 H3 x3 g3=>?_⟩⟩⟩;cases g1.int;cases g2.int;cases g3.int;exact⟨_,_,_,rfl,k _ Z3 H3 ((x1.trans x2).trans x3) rfl⟩
end
def xK:Wb->Bool
 | .inl _::_=>true
 | _=>false
section
variable {prog:V2}{w:V5}{A:V3}{E:VH}{s:V1}
theorem IF:∀{xs ys:VP}{ks js:Wb}{q:Bool}{i:Nat},cV xs ks->cV ys js->fF ks js=some q->(i=0->xK ks=true/\xK js=true)->Q q s->
  PySem.W.KatLex prog w A true (decide (xs.length<ys.length)) Q (xs.zip ys) i s
 | _,_,_,_,q,i,.nil,.nil,h,_,hq=>by
  cases h;exact Uy (by simpa using hq)
 | _,_,_,_,q,i,.nil,.int _ _ r,h,_,hq=>by cases h;exact Uy (by simpa using hq)
 | _,_,_,_,q,i,.nil,.str _ _ r,h,_,hq=>by cases h;exact Uy (by simpa using hq)
 | _,_,_,_,q,i,.int _ _ r,.nil,h,_,hq=>by cases h;exact Uy (by simpa using hq)
 | _,_,_,_,q,i,.str _ _ r,.nil,h,_,hq=>by cases h;exact Uy (by simpa using hq)
 | _,_,_,_,q,i,.int n t r1,.str y u r2,h,_,hq=>by
  have h':(if(Sum.inl n:Key)=.inr y then _ else ER (.inl n) (.inr y))=some q:=h;rw[j_ (λz=>nomatch z)]at h';cases h'
 | _,_,_,_,q,i,.str x t r1,.int m u r2,h,_,hq=>by
  have h':(if(Sum.inr x:Key)=.inl m then _ else ER (.inr x) (.inl m))=some q:=h;rw[j_ (λz=>nomatch z)]at h';cases h'
 | _,_,_,_,q,i,@cV.int n t xs ks r1,@cV.int m u ys js r2,h,h0,hq=>by
  have h':(if(Sum.inl n:Key)=.inl m then fF ks js else ER (.inl n) (.inl m))=some q:=h;refine PySem.W.kat_cons (SeqAt.EqAt.int_int n t m u prog w _ _ ?_)
  by_cases e:n=m
  .subst e;rw[i_ rfl]at h';rw[show(n==n)=true by simp];refine PySem.W.kat_yes ?_;have:=IF (i:=i+1) r1 r2 h' (λz=>by lia) hq;rw[show ∀(a b:V0),decide ((a::xs).length<(b::ys).length)=decide (xs.length<ys.length)from λa b=>by simp];exact this
  .rw[j_ (λz=>e (Sum.inl.inj z))]at h';cases h';rw[show(n==m)=false by simpa using e];refine PySem.W.kat_no ?_
   by_cases hi:i=0
   .subst hi;exact oneLt_int hq
   .rw[show(true&&i==0)=false by simp[hi]];exact PySem.W.kat_one _ _ (HT.BQ A s n t m u prog w _ _ hq)
 | _,_,_,_,q,i,@cV.str x t xs ks r1,@cV.str y u ys js r2,h,h0,hq=>by
  have h':(if(Sum.inr x:Key)=.inr y then fF ks js else ER (.inr x) (.inr y))=some q:=h;have hi:i≠0:=λz=>by have:=(h0 z).1;cases this
  refine PySem.W.kat_cons (SeqAt.EqAt.str_str x t y u prog w _ _ ?_)
  by_cases e:x=y
  .subst e;rw[i_ rfl]at h';rw[show(x==x)=true by simp];refine PySem.W.kat_yes ?_;have:=IF (i:=i+1) r1 r2 h' (λz=>by lia) hq;rw[show ∀(a b:V0),decide ((a::xs).length<(b::ys).length)=decide (xs.length<ys.length)from λa b=>by simp];exact this
  .rw[j_ (λz=>e (Sum.inr.inj z))]at h';cases h';rw[show(x==y)=false by simpa using e];refine PySem.W.kat_no ?_;rw[show(true&&i==0)=false by simp[hi]];exact PySem.W.kat_one _ _ (Ci A s x t y u prog w _ _ hq)
end
def c9(h:V4):VP->Wa->Prop
 | [],[]=>True
 | v::vs,ks::kss=>(∃a o xs n,v=.ref a/\h.get? a=some o/\o.cls=.type "tuple"/\o.data=.seq xs n/\cV xs.toList ks)/\c9 h vs kss
 | _,_=>False
theorem c9.keeps(k:∀a o,h.get? a=some o->o.cls=.type "tuple"->h'.get? a=some o):∀{vs:VP}{kss:Wa},c9 h vs kss->c9 h' vs kss
 | [],[],t=>t
 | [],_::_,t=>t.elim
 | _::_,[],t=>t.elim
 | _::_,_::_,⟨⟨a,o,xs,n,e,ho,hc,hd,r⟩,t⟩=>⟨⟨a,o,xs,n,e,k a o ho hc,hc,hd,r⟩,c9.keeps k t⟩
theorem c9.at:∀{vs:VP}{kss:Wa}{i:Nat}{v:V0},c9 h vs kss->vs[i]?=some v->∃a o xs n ks,v=.ref a/\h.get? a=some o/\o.cls=.type "tuple"/\o.data=.seq xs n/\kss[i]?=some ks/\cV xs.toList ks
 | [],[],i,v,_,e=>by simp at e
 | [],_::_,_,_,t,_=>t.elim
 | _::_,[],_,_,t,_=>t.elim
 | w::vs,ks::kss,0,v,⟨⟨a,o,xs,n,e,ho,hc,hd,r⟩,t⟩,e2=>by simp at e2;subst e2;exact⟨a,o,xs,n,ks,e,ho,hc,hd,rfl,r⟩
 | w::vs,ks::kss,i+1,v,⟨_,t⟩,e2=>by
  obtain⟨a,o,xs,n,Jz,g⟩:=c9.at (i:=i) t (by simpa using e2);exact⟨a,o,xs,n,Jz,by simpa using g⟩
theorem c9.firsts:∀{vs:VP}{kss:Wa},c9 h vs kss->kss.all xK=true->∃fs,PySem.W.KatTups h vs fs/\fs.length=vs.length/\∀f∈fs,∃n t,f=Value.int n t
 | [],[],_,_=>⟨[],trivial,rfl,λ_ h=>by cases h⟩
 | [],_::_,t,_=>t.elim
 | _::_,[],t,_=>t.elim
 | w::vs,ks::kss,⟨⟨a,o,xs,n,e,ho,hc,hd,r⟩,t⟩,hh=>by
  rw[Vv,C_]at hh;obtain⟨fs,h1,h2,h3⟩:=c9.firsts t hh.2;subst e;obtain⟨xs⟩:=xs;cases r with
  | nil=>cases hh.1
  | str x t r=>cases hh.1
  | int m tk r=>
   refine⟨.int m tk::fs,PySem.W.KatTups.cons ho hc hd (by simp) h1,by simp[h2],λf hf=>?_⟩;rcases o_.mp hf with rfl | hf
   .exact⟨_,_,rfl⟩
   .exact h3 f hf
section
variable {prog:V2}{w:V5}{A:V3}{E:VH}{s:V1}
end
def vF:Wf->Option Wa
 | []=>some []
 | .tup xs::r=>(oE xs).bind λks=>(vF r).bind λkss=>some (ks::kss)
 | _=>none
section
variable {X:Cx}{l r:V9}{fa fb:Fe}{ga gb:Gr}{pos p:Pos}
def uR(K:Fg)(H:Hp):Wh->Wa->Prop
 | [],[]=>True
 | v::vs,ks::kss=>(∃a,v=.ref a/\c7 K H a (ks.map kV))/\uR K H vs kss
 | _,_=>False
theorem uR.of{K:Fg}{Z:Hp}:∀{ds:Wf}{vs:Wh}{kss:Wa},vF ds=some kss->ai K Z ds vs->uR K Z vs kss
 | [],vs,kss,h,r=>by cases h;cases(show vs=[]from r);trivial
 | d::ds,vs,kss,h,r=>by
  obtain⟨v,rr,e,h1,h2⟩:=r;subst e;cases d<;>try cases h
  obtain⟨ks,e1,h⟩:=a_.mp h;obtain⟨kss',e2,h⟩:=a_.mp h;cases h;obtain⟨a,us,rfl,q,r1⟩:=h1;cases fJ e1 r1;exact⟨⟨a,rfl,q⟩,uR.of e2 h2⟩
theorem uR.mono{K:Fg}{H H':Hp}(s:aD H H'):∀{vs:Wh}{kss:Wa},uR K H vs kss->uR K H' vs kss
 | [],[],t=>t
 | [],_::_,t=>t.elim
 | _::_,[],t=>t.elim
 | _::_,_::_,⟨⟨a,e,q⟩,t⟩=>⟨⟨a,e,cI s q⟩,uR.mono s t⟩
theorem uR.heap{pins σ H s}(I:Inv X pins σ H s):∀{vs:Wh}{us:VP}{kss:Wa},uR X.K H vs kss->aw vs us->c9 s.heap us kss
 | [],_,[],t,r=>by cases r;trivial
 | [],_,_::_,t,_=>t.elim
 | _::_,_,[],t,_=>t.elim
 | _::_,_,_::_,⟨⟨a,e,q⟩,t⟩,r=>by
  subst e;cases r with
  | cons h r=>
   cases(show _=Value.ref a from h);obtain⟨bu,rv,⟨o,h1,h2,n',h3⟩,_⟩:=I.tuple q;exact⟨⟨a,o,bu.toArray,n',rfl,h1,h2,h3,by simpa using cV.of rv⟩,uR.heap I t r⟩
end
end Mi
namespace Mi
open PySem L2
mutual
theorem Ad:∀(d:D),pl d=true->dO d d=true
 | .non,_=>by simp[dO]
 | .bl b,_=>by simp[dO]
 | .int i,_=>by simp[dO]
 | .str x,_=>by simp[dO]
 | .tup ds,h=>by unfold dO;exact kB ds (by unfold pl at h;exact h)
 | .lst ds,h=>by unfold dO;exact kB ds (by unfold pl at h;exact h)
 | .dct _,h=>by unfold pl at h;cases h
 | .st _,h=>by unfold pl at h;cases h
 | .ln _,h=>by unfold pl at h;cases h
 | .mp _ _ _,h=>by unfold pl at h;cases h
 | .ix _ _ _,h=>by unfold pl at h;cases h
 | .nt _ _,h=>by unfold pl at h;cases h
 | .ob _ _,h=>by unfold pl at h;cases h
theorem kB:∀(ds:Wf),gK ds=true->i8 ds ds=true
 | [],_=>by simp[i8]
 | d::ds,h=>by
  unfold gK at h;rw[C_]at h;unfold i8;rw[Ad d h.1,kB ds h.2];rfl
end
end Mi
namespace Mi
open PySem PySem.Spec PyProof.Rows L2
theorem CB:∀(l:List (α×β)),(l.map (·.1)).zip (l.map (·.2))=l
 | []=>rfl
 | (a,b)::l=>by rw[B_,B_,Sv,CB l]
theorem xH:∀{xs:List α}{ys:List β},xs.length=ys.length->(xs.zip ys).map (·.2)=ys
 | [],[],_=>rfl
 | [],_::_,h=>by simp at h
 | _::_,[],h=>by simp at h
 | x::xs,y::ys,h=>by rw[Sv,B_,xH (by simpa using h)]
def kx(x:VY×V8):Wb×V8:=(kk x.1,x.2)
theorem mj(hl:bs.length=ps.length):gg a ps bs h↔St.cN (tupleKind (aF P w)) a ((ps.zip bs).map kx) h:=by
 have e1:(ps.zip bs).map Lp=((ps.zip bs).map kx).map (St.ent (tupleKind (aF P w))):=by rw[Q_];rfl
 have e2:(((ps.zip bs).map kx).map (·.1)).Nodup↔ps.Nodup:=by
  rw[Q_,show((λx:Wb×V8=>x.1) ∘ kx)=kk ∘ (λx:VY×V8=>x.1)from rfl,<- Q_,jJ hl.symm];exact ye λx y=>vH
 constructor
 .rintro⟨o,es,ep,t,h1,h2,h3,h4,h5,h6,h7,h8⟩;exact⟨o,es,ep,t,h1,h2,h3,⟨by rw[<- e1];exact h4,h5,h6,h7⟩,e2.mpr h8⟩
 .rintro⟨o,es,ep,t,h1,h2,h3,⟨h4,h5,h6,h7⟩,h8⟩;exact⟨o,es,ep,t,h1,h2,h3,by rw[e1];exact h4,h5,h6,h7,e2.mp h8⟩
theorem uW(a:V8)(ps:VN)(bs:VT):∀h1 h2:V4,gg a ps bs h1->(∀o,h1.get? a=some o->h2.get? a=some o)->gg a ps bs h2:=λh1 h2 ⟨o,es,ep,t,e,r⟩ k=>⟨o,es,ep,t,k o e,r⟩
def mN(ps:VN):VN:=ps.foldl fu []
def gO(xs:List (VY×V8))(x:VY×V8):List (VY×V8):=if x.1∈xs.map (·.1)then xs else xs++[x]
theorem FA(xs:List (VY×V8))(x:VY×V8):(gO xs x).map kx=St.iJ (xs.map kx) (kx x):=by
 unfold gO St.iJ;have e:(kx x).1∈(xs.map kx).map (·.1)↔x.1∈xs.map (·.1):=by
  rw[Q_,E_,E_];constructor
  .rintro⟨y,hy,e⟩;exact⟨y,hy,vH e⟩
  .rintro⟨y,hy,e⟩;exact⟨y,hy,by show kk y.1=kk x.1;rw[e]⟩
 by_cases h:x.1∈xs.map (·.1)
 .rw[i_ h,i_ (e.mpr h)]
 .rw[j_ h,j_ (λz=>h (e.mp z)),Sg];rfl
theorem oC:∀(l xs:List (VY×V8)),(l.foldl gO xs).map kx=(l.map kx).foldl St.iJ (xs.map kx)
 | [],xs=>rfl
 | x::l,xs=>by rw[Tr,oC l,FA];rfl
theorem mq:∀(l xs:List (VY×V8)),(l.foldl gO xs).map (·.1)=(l.map (·.1)).foldl fu (xs.map (·.1))
 | [],xs=>rfl
 | x::l,xs=>by
  rw[Tr,mq l,B_,Tr];congr 1;unfold gO fu
  by_cases h:x.1∈xs.map (·.1)
  .rw[i_ h,i_ h]
  .rw[j_ h,j_ h,Sg];rfl
theorem sG:∀{l xs:List (VY×V8)}{y:VY×V8},y∈l.foldl gO xs->y∈xs\/y∈l
 | [],xs,y,h=>.inl h
 | x::l,xs,y,h=>by
  rcases sG (l:=l) h with h | h
  .unfold gO at h
   split at h
   .exact .inl h
   .rcases O_.mp h with h | h
    .exact .inl h
    .exact .inr (by rw[k_.mp h];exact f_)
  .exact .inr (d_ _ h)
theorem ik.of_zip{K:Fg}{H:Hp}(l:List (VY×V8))(h:∀x∈l,c7 K H x.2 [.int x.1.1,.int x.1.2]):ik K H (l.map (·.1)) (l.map (·.2)):=by
 refine⟨by simp,λi p b h1 h2=>?_⟩;rw[u_]at h1 h2;obtain⟨x,hx,rfl⟩:=K_.mp h1;rw[hx]at h2;cases h2;exact h x (F_ hx)
section
variable {X:Cx}{l r:V9}{fa fb:Fe}{ga gb:Gr}{pos p:Pos}{k:Nat}
theorem ui:∀{bs:VT}{us:VP},aw (bs.map V.ref) us->us=bs.map Value.ref
 | [],us,h=>by cases h;rfl
 | b::bs,us,h=>by
  cases h with
  | cons h1 h2=>cases(show _=Value.ref b from h1);rw[ui h2];rfl
def rf:Wf->Option VN
 | []=>some []
 | .tup [.int a,.int b]::r=>(rf r).bind λps=>some ((a,b)::ps)
 | _=>none
theorem sX{K:Fg}{Z:Hp}:∀{ds:Wf}{vs:Wh}{ps:VN},rf ds=some ps->ai K Z ds vs->∃bs,vs=bs.map V.ref/\ik K Z ps bs
 | [],vs,ps,h,r=>by cases h;cases(show vs=[]from r);exact⟨[],rfl,rfl,λi p b h=>by simp at h⟩
 | d::ds,vs,ps,h,r=>by
  unfold rf at h
  split at h
  .rename_i heq;exact absurd heq (by simp)
  .rename_i a b r' e;cases e;obtain⟨ps',e1,h⟩:=a_.mp h;cases h;obtain⟨v,rr,e,h1,h2⟩:=r;subst e;obtain⟨c,us,rfl,q,r1⟩:=h1;cases ai.intsV (bs:=[a,b]) r1;obtain⟨bs,rfl,hp⟩:=sX e1 h2;refine⟨c::bs,rfl,by simp[hp.1],λi p b' h1 h2=>?_⟩;cases i with
   | zero=>simp at h1 h2;subst h1;subst h2;exact q
   | succ i=>exact hp.2 i p b' (by simpa using h1) (by simpa using h2)
  .cases h
def BR:D->Wg
 | .lst ds=>(rf ds).bind λps=>if ps.length<=4900 then some (.st (mN ps))else none
 | _=>none
theorem LQ{K:Fg}:gB K .cl BR (λxs H Q=>∃(a:V8)(ps:VN)(bs:VT),xs=[.ref a]/\cW K H a (bs.map V.ref)/\ik K H ps bs/\ps.length<=4900/\
  ∀q,H q=none->Q (.ref q) (upd H q (.ext (gg q (mN ps) ((((ps.zip bs).foldl gO []).map (·.2))))))):=λ{Z H x dx d Q} s h e k=>by
 cases dx<;>try cases e
 obtain⟨ps,h1,h2⟩:=a_.mp e;obtain⟨hl,rfl⟩:=rh h2;obtain⟨a,vs,rfl,q,rr⟩:=h.lst s;obtain⟨bs,rfl,hp⟩:=sX h1 rr;refine⟨a,ps,bs,rfl,q,hp.mono s,hl,λc hc=>?_⟩;have Pf:ik K Z (mN ps) (((ps.zip bs).foldl gO []).map (·.2)):=by
  have:=ik.of_zip ((ps.zip bs).foldl gO []) λx hx=>by
   rcases sG hx with h | h
   .cases h
   .exact hp.zip x h
  rw[mq,jJ hp.1.symm]at this;exact this
 have s1:aD Z (upd Z c (.ext (gg c (mN ps) (((ps.zip bs).foldl gO []).map (·.2))))):=dj (s.free hc);exact k _ _ _ (Ex.new s hc) ⟨c,_,rfl,Pf.1,av,λi p b g1 g2=>cI s1 (Pf.2 i p b g1 g2)⟩
theorem zw(hc:X.calm=true)(hu:X.A.units+66<cLine):dv X (.type "set") (λxs H Q=>∃(a:V8)(ps:VN)(bs:VT),xs=[.ref a]/\cW X.K H a (bs.map V.ref)/\ik X.K H ps bs/\ps.length<=4900/\
  ∀q,H q=none->Q (.ref q) (upd H q (.ext (gg q (mN ps) ((((ps.zip bs).foldl gO []).map (·.2))))))):=by
 intro pins s σ H xs us Q I rs h;obtain⟨a,ps,bs,rfl,hq,hp,hl,q⟩:=h;obtain⟨u,rfl,rx⟩:=vals1 rs;cases rx;obtain⟨bu,rv,pl,hz⟩:=I.list hq;have hits:=ui rv;subst hits;refine St.oq (I.ok.hd hc) (by lia) pl.isList (ks:=(ps.zip bs).map kx) ?_ (λx hx=>?_) (by simp;lia) λh' tk hS hold=>?_
 .rw[Q_];show bs.map Value.ref=(ps.zip bs).map (Value.ref ∘ (·.2));rw[<- Q_,xH hp.1.symm]
 .obtain⟨y,hy,rfl⟩:=E_.mp hx;exact rM I (hp.zip y hy)
 .have Pp:St.cN (tupleKind (aF X.prog X.w)) s.sz (((ps.zip bs).foldl gO []).map kx) h':=by
   rw[oC];exact hS
  have hfst:((ps.zip bs).foldl gO []).map (·.1)=mN ps:=by rw[mq,jJ hp.1.symm];rfl
  have PK:gg s.sz (((ps.zip bs).foldl gO []).map (·.1)) (((ps.zip bs).foldl gO []).map (·.2)) h':=by
   rw[mj (by simp),CB];exact Pp
  rw[hfst]at PK;have hfr:=I.hok.fresh (l_ s.sz);refine⟨.ref _,_,I.laid (o:=.ext (gg s.sz (mN ps) (((ps.zip bs).foldl gO []).map (·.2)))) (λb o e=>hold b o (r_ e) e) (l_ _) ⟨PK,?_,uW _ _ _⟩,rfl,q _ hfr⟩;obtain⟨o,_,_,_,e,_⟩:=PK;exact⟨o,e⟩
theorem yD:bootBuiltins "set"=some (.type "set"):=by first | rfl | decide +kernel | kernel_rfl
theorem IB(hm:X.mg "set"=none)(hc:X.calm=true)(hr:bo k X.A)(ha:PD X ga l fa)(hg:Gl X "set":=by rfl)(he:starEach [l] X.env=[(false,eval l X.env)]:=by rfl):PD X .cl (.Call (.Name "set" p) [l] [] pos) (bt BR fa):=
 AY (zw hc (jv hr)) LQ yD hm ha (by decide) (by decide) hg he
theorem Gd.st{K:Fg}{Z' H H':Hp}{g:Gr}{v:V}{ps:VN}(s:aD Z' H')(h:Gd K Z' H H' g (.st ps) v):∃a bs,v=.ref a/\H' a=some (.ext (gg a ps bs))/\ik K H' ps bs:=by
 rcases(h.pk (H3:=H))with ⟨a,bs,e,l,q,r⟩ | ⟨_,_,_,_,e,_⟩ | ⟨_,_,_,e,_⟩ | ⟨_,_,_,_,_,e,_⟩
 .exact⟨a,bs,e,s _ _ q,l,λi p b h1 h2=>cI s (r i p b h1 h2)⟩
 .cases e
 .cases e
 .cases e
def NH(neg:Bool):D->D->Wg
 | .tup [.int a,.int b],.st ps=>some (.bl (if neg then !decide ((a,b)∈ps)else decide ((a,b)∈ps)))
 | _,_=>none
def KI(K:Fg)(neg:Bool):R2:=λx y H Q=>∃(b c:V8)(ps:VN)(bs:VT)(m n:Int),x=.ref b/\c7 K H b [.int m,.int n]/\y=.ref c/\H c=some (.ext (gg c ps bs))/\ik K H ps bs/\Q (.bl (if neg then !decide ((m,n)∈ps)else decide ((m,n)∈ps))) H
theorem Hf{ps:VN}{bs:VT}(hl:bs.length=ps.length)(m n:Int):(kk (m,n)∈((ps.zip bs).map kx).map (·.1))↔(m,n)∈ps:=by
 rw[Q_,show((λx:Wb×V8=>x.1) ∘ kx)=kk ∘ (λx:VY×V8=>x.1)from rfl,<- Q_,jJ hl.symm,E_];constructor
 .rintro⟨q,hq,e⟩;rw[<- vH e];exact hq
 .intro h;exact⟨_,h,rfl⟩
theorem HA(hu:X.A.units+1<cLine)(neg:Bool):jn X (compareOp (if neg then .NotIn else .In)) (KI X.K neg):=by
 intro pins s σ H x y v u Q I rx ry h;obtain⟨b,c,ps,bs,m,n,rfl,hq,rfl,hc,hp,q⟩:=h;cases rx;cases ry;have hS:gg c ps bs s.heap:=(show bp X.prog X.w H s.heap c (.ext (gg c ps bs))from I.hok c _ hc).1;rw[mj hp.1]at hS;have uE:∀x∈(ps.zip bs).map kx,(tupleKind (aF X.prog X.w)).is s.heap x.1 x.2:=λx hx=>by
  obtain⟨y,hy,rfl⟩:=E_.mp hx;exact rM I (hp.zip y hy)
 have hd:∀(inst:Decidable (kk (m,n)∈((ps.zip bs).map kx).map (·.1))),@decide _ inst=decide ((m,n)∈ps):=λinst=>decide_eq_decide.mpr (Hf hp.1 m n);cases neg with
 | false=>
  refine St.Md St.mh (T3 hu) hS uE (rM I hq) λtk=>?_;rw[hd];exact⟨.bl _,H,I.tok _,rfl,q⟩
 | true=>
  refine St.Af St.mh (T3 hu) hS uE (rM I hq) λtk=>?_;rw[hd];exact⟨.bl _,H,I.tok _,rfl,q⟩
theorem LC{K:Fg}{neg:Bool}:cX K .cl (NH neg) (KI K neg):=λ{Z H x y dx dy d Q} s h1 h2 e kq=>by
 unfold NH at e
 split at e
 .rename_i m n ps;cases e;obtain⟨b,vs,rfl,q,rr⟩:=h1.tup s;cases ai.intsV (bs:=[m,n]) rr;obtain⟨c,bs,rfl,qc,hp⟩:=h2.st s;exact⟨b,c,ps,bs,m,n,rfl,q,rfl,qc,hp,kq _ Z H (Ex.refl s) rfl⟩
 .cases e
theorem La(hr:bo k X.A)(ha:PD X ga l fa)(hb:PD X gb r fb)(hm:behindInMarks .In r=false:=by rfl):PD X .cl (.Compare l [.In] [r] pos) (ak (NH false) fa fb):=sF (HA (oW hr) false) LC ha hb hm
def EA:D->Wg
 | .st ps=>some (.int ps.length)
 | _=>none
theorem zk:dv X (.builtin "len") (λxs H Q=>∃(a:V8)(ps:VN)(bs:VT),xs=[.ref a]/\H a=some (.ext (gg a ps bs))/\bs.length=ps.length/\Q (.int ps.length) H):=by
 intro pins s σ H xs us Q I rs h;obtain⟨a,ps,bs,rfl,hc,hl,q⟩:=h;obtain⟨u,rfl,rx⟩:=vals1 rs;cases rx;have hS:gg a ps bs s.heap:=(show bp X.prog X.w H s.heap a (.ext (gg a ps bs))from I.hok a _ hc).1;rw[mj hl]at hS;have hln:((ps.zip bs).map kx).length=ps.length:=by simp[hl]
 refine St.I8 hS ?_ λt tk=>?_
 .obtain⟨o,es,ep,t,_,_,_,T,_⟩:=id hS;have h1:=T.size;have h2:=T.psize;have h3:=T.nf;have h4:=(St.lB T.msk).2.1;have:((ps.zip bs).map kx).length<=5000:=by lia
  have e:((2:Int) ^ 63)=9223372036854775808:=by decide
  rw[e];lia
 .rw[hln];exact⟨.int _,H,I.tok _,⟨_,rfl⟩,q⟩
theorem Hk{K:Fg}:gB K .cl EA (λxs H Q=>∃(a:V8)(ps:VN)(bs:VT),xs=[.ref a]/\H a=some (.ext (gg a ps bs))/\bs.length=ps.length/\Q (.int ps.length) H):=λ{Z H x dx d Q} s h e k=>by
 cases dx<;>cases e;obtain⟨a,bs,rfl,q,hp⟩:=h.st s;exact⟨a,_,bs,rfl,q,hp.1,k _ Z H (Ex.refl s) rfl⟩
theorem Jg(hm:X.mg "len"=none)(ha:PD X ga l fa)(hg:Gl X "len":=by rfl)(he:starEach [l] X.env=[(false,eval l X.env)]:=by rfl):PD X .cl (.Call (.Name "len" p) [l] [] pos) (bt EA fa):=
 oY zk Hk PySem.boot_len hm ha (by decide) (by decide) hg he
end
section
variable {prog:V2}{w:V5}{A:V3}{E:VH}{s:V1}
end
section
variable {X:Cx}{l r:V9}{fa fb:Fe}{ga gb:Gr}{pos p:Pos}{k:Nat}
end
theorem BV(ks:VN)(p q:VY):q∈fu ks p↔q∈ks\/q=p:=by
 unfold fu
 split
 .rename_i h;exact⟨λz=>.inl z,λz=>z.elim id λe=>e▸h⟩
 .simp
theorem nc:∀(l xs:VN)(q:VY),q∈l.foldl fu xs↔q∈xs\/q∈l
 | [],xs,q=>by simp
 | x::l,xs,q=>by rw[Tr,nc l,BV,o_,or_assoc]
theorem Ew(l:VN)(q:VY):q∈mN l↔q∈l:=by unfold mN;rw[nc];simp
theorem lS:∀(l xs:VN),(xs++l).Nodup->l.foldl fu xs=xs++l
 | [],xs,_=>by simp
 | x::l,xs,h=>by
  have hx:x∉xs:=λhm=>by
   rw[S1]at h;exact h.2.2 x hm x f_ rfl
  rw[Tr,show fu xs x=xs++[x] by unfold fu;rw[j_ hx],lS l (xs++[x]) (by simpa using h)];simp
theorem yT(h:l.Nodup):mN l=l:=by unfold mN;rw[lS l [] (by simpa using h)];rfl
theorem oK:∀(l xs:VN),(l.foldl fu xs).length<=xs.length+l.length/\((l.foldl fu xs).length=xs.length+l.length->xs.Nodup->(xs++l).Nodup)
 | [],xs=>by simp
 | x::l,xs=>by
  rw[Tr];obtain⟨h1,h2⟩:=oK l (fu xs x);have h3:=CM xs x;refine⟨by simp only[m_];lia,λe hn=>?_⟩;simp only[m_]at e;have e1:(fu xs x).length=xs.length+1:=by lia
  have hx:x∉xs:=λhm=>by
   have:fu xs x=xs:=by unfold fu;rw[i_ hm]
   rw[this]at e1;lia
  have e2:fu xs x=xs++[x]:=by unfold fu;rw[j_ hx]
  rw[e2]at h2;have:=h2 (by rw[<- e2];lia) (by
   refine S1.mpr ⟨hn,by simp,λa ha b hb=>?_⟩;rw[k_]at hb;subst hb;rintro rfl;exact hx ha)
  simpa using this
theorem DG:(mN l).length<=l.length/\((mN l).length=l.length↔l.Nodup):=by
 obtain⟨h1,h2⟩:=oK l [];have e0:(mN l).length=(l.foldl fu []).length:=rfl;rw[SU,Tt]at h1 h2;refine⟨by rw[e0];exact h1,λe=>by have:=h2 (by rw[<- e0];exact e) S5;simpa using this,λh=>by rw[yT h]⟩
theorem um(hf:∀p,f p=.tup [.int p.1,.int p.2]):∀(ps:VN),rf (ps.map f)=some ps
 | []=>rfl
 | p::ps=>by rw[B_,hf];show(rf (ps.map f)).bind _=_;rw[um hf ps];rfl
theorem IU(h:f env=some (.lst ds))(h2:rf ds=some ps)(hl:ps.length<=4900):bt BR f env=some (.st (mN ps)):=by
 rw[tE h];show(rf ds).bind _=_;rw[h2];show(if ps.length<=4900 then _ else _)=_;rw[i_ hl]
end Mi
namespace St
open PySem L2
section
variable {prog:V2}{w:V5}{A:V3}{E:VH}{s:V1}
end
end St
namespace Mi
open PySem PySem.Spec PyProof.Rows L2
section
variable {elt:V9}{gens:VO}{scope:V7}{pos:Pos}{d:Nat}{tg iter:V9}{ifs:VU}{it acc:V0}{env:Env}
end
structure Rn(X:Cx)(pins:List (Addr×Obj))(a:Addr)(B Z H:Hp)(env:En)(σ:L2.St)(pre:List D)(s:Shared):Prop where
 I:Inv X pins σ H s
 R:Rl X.K B Z H env σ
 nO:∀(i:Nat) ds,env[i]?≠some (.O ds)
 hb:B a=none
 hz:Z a=none
 ac:∃(ps:List (Int×Int))(xs:List ((Int×Int)×Addr)),rf pre=some ps/\xs.map (·.1)=mN ps/\H a=some (.ext (gg a (xs.map (·.1)) (xs.map (·.2))))/\∀x∈xs,c7 X.K Z x.2 [.int x.1.1,.int x.1.2]
def Ot(X:Cx)(a:V8)(Bd:BdT)(k:Wc):Prop:=∀(pins:VI)(s:V1)(σ:L2.St)(H B Z:Hp)(env:En)(pre xs:Wf)(P:V1->Prop)(E:VH),
 Rn X pins a B Z H env σ pre s->k env=some xs->pre.length+xs.length<=4900->(∀s' σ' H' Z',Rn X pins a B Z' H' env σ' (pre++xs) s'->Ex Z B Z' H'->P s')->Bd P E s
section
variable {X:Cx}{a:V8}{elt:V9}{fe:Fe}
end
section
variable {P:V2}{w:V5}{A:V3}{elt:V9}{gens:VO}{scope:V7}{pos:Pos}{d:Nat}{tg iter:V9}{ifs:VU}{it acc:V0}{env:Env}{R:Result->V1->Prop}{s:V1}
end
section
variable {X:Cx}{a:V8}{elt:V9}{gens:VO}{scope:V7}{pos:Pos}{d:Nat}{tg iter uI bT:V9}{ifs jP:VU}{it:V8}
end
structure BlkS(X:Cx)(a:Addr)(elt:Expr)(gens:List Comprehension)(scope:Scope)(pos:Pos)(d:Nat)(tg:Expr)(ifs:List Expr)(t:Ft)(c:Fb)(k:En->Option (List D)):Prop where
 g:GD X tg t
 ts:BJ X ifs c
 ex:∃Bd,Ot X a Bd k/\∀(it:Addr)(s:Shared)(Q:Fin->Shared->Prop)(E:Value->Shared->Prop),
   wpAny (model X.prog X.w) X.A (pyNext (.ref it)) (λr s1=>match r with
    | none=>Q (.done .next) s1
    | some v=>wpAny (model X.prog X.w) X.A (letOwnedTupleGo tg (.ref it) v) (λ_ s2=>wpAny (model X.prog X.w) X.A (assign tg X.env v) (λ_ s3=>
      wpAny (model X.prog X.w) X.A (forIn ifs true λc r=>if r=true then do let ok <- isTrue c X.env (eval c X.env);pure (ForInStep.yield ok)else pure (ForInStep.yield r)) (λok s4=>
       if ok=true then Bd (λs5=>Q (.again (.compLoop (.SetComp elt gens scope pos) d (.ref it) (.ref a) X.env)) s5) E s4 else Q (.again (.compLoop (.SetComp elt gens scope pos) d (.ref it) (.ref a) X.env)) s4) E s3) E s2) E s1) E s->
   wpAny (model X.prog X.w) X.A (compTurn (.SetComp elt gens scope pos) d (.ref it) (.ref a) X.env) Q E s
section
variable {X:Cx}{a:V8}{elt:V9}{gens:VO}{scope:V7}{pos:Pos}{d:Nat}{tg iter:V9}{ifs:VU}{t:Ft}{c:Fb}{fe:Fe}
end
section
variable {X:Cx}{elt:V9}{rest:VO}{scope:V7}{pos:Pos}{tg iter:V9}{ifs:VU}{t:Ft}{c:Fb}{k:Wc}{fi:Fi}{is caps:VW}{cl:VM}{Nc own:VS}
end
end Mi
namespace St
open PySem L2
section
variable {prog:V2}{w:V5}{K:Type}[DecidableEq K](knd:KeyKind prog w K)
inductive JJ(h:Heap):List (List K)->List Value->Prop
 | nil:JJ h [] []
 | cons {k:List K} {b:Addr} {ks:List (List K)} {vs:List Value}:(tupleKind knd).is h k b->JJ h ks vs->JJ h (k::ks) (.ref b::vs)
variable {knd}
variable {A:V3}{E:VH}{s:V1}
end
section
variable {prog:V2}{w:V5}{K:Type}[DecidableEq K]{knd:KeyKind prog w K}{A:V3}{E:VH}{s:V1}
end
end St
namespace Mi
open PySem PySem.Spec PyProof.Rows L2
section
variable {K:Type}[DecidableEq K]
end
section
variable {X:Cx}{rg:Gr}{l r:V9}{fa fb:Fe}{ga gb:Gr}{pos p:Pos}{k:Nat}
end
section
variable {X:Cx}{rg:Gr}{l r:V9}{fa fb:Fe}{ga gb:Gr}{pos p:Pos}{k:Nat}
end
section
variable {X:Cx}{rg:Gr}{pos:Pos}
end
section
variable {X:Cx}{i:V9}{fi:Fe}{pos p0 p1 p2 p3 p4:Pos}{k j1 j2 j3 j4:Nat}
end
end Mi
namespace Mi
open PySem PySem.Spec PyProof.Rows L2
def Nz:Key->Key->Option Bool
 | .inl a,.inl b=>some (decide (a<=b))
 | .inr a,.inr b=>some (!decide (b.cps.toList<a.cps.toList))
 | _,_=>none
def om:Wb->Wb->Option Bool
 | [],[]=>some true
 | [],_::_=>some true
 | _::_,[]=>some false
 | x::xs,y::ys=>if x=y then om xs ys else Nz x y
theorem BY(A:V3)(s:V1)(a:Str)(t:Tok)(c:Str)(u:Tok)(prog:V2)(w:V5)(E:VH)(Q:VH)(h:Q (.bool (!decide (c.cps.toList<a.cps.toList))) s) :
  wpAny (model prog w) A (richCompare .LtE (.str a t) (.str c u)) Q E s:=
 (PySem.P.le_str h:wpAny (model prog w) A (compareOp .LtE (.str a t) (.str c u)) Q E s)
section
open PySem.SeqAt
open PySem.AutoSeq1 (wpAny_loadPart')
open PySem.MeetsSeq PySem.MeetsSeq2 PySem.MeetsSeq3
theorem Cb(hv:cV (y::vs) ns)(hw:cV (x::ws) ms):∃a c FV Dw,ns=a::FV/\ms=c::Dw/\cV vs FV/\cV ws Dw/\
  ∀(A:V3)(s:V1)(q:Bool),(if a=c then om FV Dw else Nz a c)=some q->∃e,SeqAt.EqAt A s y x e/\(e=true↔a=c)/\(e=false->∀(prog:V2)(w:V5)(E:VH)(Q:VH),Q (.bool q) s->wpAny (model prog w) A (richCompare .LtE y x) Q E s):=by
 cases hv with
 | int n t zH=>
  cases hw with
  | int m u nG=>
   refine⟨_,_,_,_,rfl,rfl,zH,nG,λA s q hq=>⟨(n==m),SeqAt.EqAt.int_int n t m u,by simp,λhe=>?_⟩⟩;have hne:n≠m:=by simpa using he
   rw[j_ (λz=>hne (Sum.inl.inj z))]at hq;cases hq;exact λprog w E Q h=>(PyProof.Rows.le_int h:wpAny (model prog w) A (compareOp .LtE (.int n t) (.int m u)) Q E s)
  | str y u nG=>
   refine⟨_,_,_,_,rfl,rfl,zH,nG,λA s q hq=>?_⟩;rw[j_ (λz=>nomatch z)]at hq;cases hq
 | str a t zH=>
  cases hw with
  | int m u nG=>
   refine⟨_,_,_,_,rfl,rfl,zH,nG,λA s q hq=>?_⟩;rw[j_ (λz=>nomatch z)]at hq;cases hq
  | str b u nG=>
   refine⟨_,_,_,_,rfl,rfl,zH,nG,λA s q hq=>⟨(a==b),SeqAt.EqAt.str_str a t b u,by simp,λhe=>?_⟩⟩;have hne:a≠b:=by simpa using he
   rw[j_ (λz=>hne (Sum.inr.inj z))]at hq;cases hq;exact λprog w E Q h=>BY A s a t b u prog w E Q h
theorem og(l b:V8)(items items2:Array V0)(n n2:Nat)(dd FP:VR)(sl Dr:VJ)(ns ms:Wb)(q:Bool)(hi:cV items.toList ns)(hj:cV items2.toList ms)(hq:om ns ms=some q) :
  Meets (Builtin.«tuple.__le__» ⟨[.ref l,.ref b],[]⟩)
   (λ_ R s=>s.heap.get? l=some {cls:=.type "tuple",dict:=dd,data:=.seq items n,slots:=sl}/\s.heap.get? b=some {cls:=.type "tuple",dict:=FP,data:=.seq items2 n2,slots:=Dr}/\R (.ok (.ret (.bool q))) s):=
 .of_wp λprog w A R s h=>by
  obtain⟨hp,g,d,tk,os⟩:=s;obtain⟨hl,hb,h⟩:=h;have f2:=AutoSeq1.sub_tuple_tuple;have z1:items.size=ns.length:=by rw[<- hi.length];simp
  have z2:items2.size=ms.length:=by rw[<- hj.length];simp
  wp_walk using wpAny_loadPart' hl,wpAny_loadPart' hb,UP _ (λrest b s'=>b.1=none/\s'=⟨hp,g,d,tk,os⟩/\∃(vs ws:VP)(FV Dw:Wb),rest=vs.zip ws/\
   cV vs FV/\cV ws Dw/\FV.length+items2.size=Dw.length+items.size/\om FV Dw=some q) _
  case turn=>
   rintro⟨y,x⟩ rest b s' ⟨jl,rfl,vs,ws,FV,Dw,hz,N6,Ro,hlen,hR⟩;cases vs with
   | nil=>rw[List.zip_nil_left]at hz;cases hz
   | cons v vs=>
    cases ws with
    | nil=>rw[List.zip_nil_right]at hz;cases hz
    | cons w' ws=>
     rw[Sv]at hz
     injection hz with hyx De
     injection hyx with hy hx
     subst hy hx;obtain⟨a,c,Rp,PM,rfl,rfl,hv1,hw1,ask⟩:=Cb N6 Ro;have PN:(if a=c then om Rp PM else Nz a c)=some q:=hR;obtain⟨e,he,hiff,fg⟩:=ask A.in1 ⟨hp,g,d,tk,os⟩ q PN;simp only[m_]at hlen;refine b_ (he prog w _ _ ?_);cases e with
     | true=>
      rw[i_ (hiff.mp rfl)]at PN
      wp_walk
      exact⟨rfl,rfl,_,_,_,_,De,hv1,hw1,by lia,PN⟩
     | false=>
      have hri:=fg rfl prog w
      wp_walk using hri
      exact⟨_,rfl,by simpa using h⟩
  case fin=>
   rintro⟨b1,b2⟩ s' ⟨jl,rfl,vs,ws,FV,Dw,hz,N6,Ro,hlen,hR⟩;simp only at jl;subst jl;have l1:=N6.length;have l2:=Ro.length;have hv:q=decide (items.size<=items2.size):=by
    cases FV with
    | nil=>
     cases Dw with
     | nil=>
      simp only[SU]at hlen;cases hR;exact(x_ (by lia)).symm
     | cons c PM=>
      simp only[SU,m_]at hlen;cases hR;exact(x_ (by lia)).symm
    | cons a Rp=>
     cases Dw with
     | nil=>
      simp only[SU,m_]at hlen;cases hR;exact(R_ (by lia)).symm
     | cons c PM=>
      cases vs with
      | nil=>simp at l1
      | cons v vs=>
       cases ws with
       | nil=>simp at l2
       | cons w' ws=>rw[Sv]at hz;cases hz
   rw[hv]at h
   wp_walk
   exact⟨_,rfl,by simpa [Builtin.Tuple.tupleCompareSizes]using h⟩
  case h=>
   exact⟨rfl,rfl,items.toList,items2.toList,ns,ms,rfl,hi,hj,by lia,hq⟩
end
section
variable {X:Cx}{l r:V9}{fa fb:Fe}{ga gb:Gr}{pos p:Pos}{k:Nat}
def Kx(K:Fg):R2:=λx y H Q=>∃a b ns ms q,x=.ref a/\y=.ref b/\c7 K H a (ns.map kV)/\c7 K H b (ms.map kV)/\om ns ms=some q/\Q (.bl q) H
theorem Hu(hu:X.A.units<cLine):jn X (compareOp .LtE) (Kx X.K):=by
 intro pins s σ H x y v u Q I rx ry h;obtain⟨a,b,ns,ms,c,rfl,rfl,ha,hb,hc,q⟩:=h;cases rx;cases ry;obtain⟨bu,r1,p1,_⟩:=I.tuple ha;obtain⟨uH,r2,p2,_⟩:=I.tuple hb;obtain⟨⟨cls,dd,data,sl⟩,ho,fo,n,hd⟩:=id p1;obtain⟨⟨Jw,FP,data2,Dr⟩,Ds,r6,n2,hd2⟩:=id p2;simp only at fo hd r6 hd2;subst fo hd r6 hd2;exact richCompare_meets_room (op:=.LtE) ⟨_,ho,rfl⟩ ⟨_,Ds,rfl⟩ PySem.F.slot_tuple_le PySem.F.entry_tuple_le (PySem.F.args_tuple_le_2 _ _) (og a b bu.toArray uH.toArray n n2 dd FP sl Dr ns ms c (by simpa using cV.of r1) (by simpa using cV.of r2) hc)
  ⟨ho,Ds,show Value.bool c≠Value.notImplemented/\EP X pins σ Q (.bool c) s from⟨(λz=>nomatch z),⟨.bl c,H,I,rfl,q⟩⟩⟩ hu
def KS:D->D->Wg
 | .tup xs,.tup ys=>(oE xs).bind λns=>(oE ys).bind λms=>(om ns ms).bind λq=>some (.bl q)
 | _,_=>none
theorem Mn{K:Fg}:cX K .cl KS (Kx K):=λ{Z H x y dx dy d Q} s h1 h2 e kq=>by
 cases dx<;>try cases e
 all_goals (cases dy<;>try cases e)
 obtain⟨ns,e1,e⟩:=a_.mp e;obtain⟨ms,e2,e⟩:=a_.mp e;obtain⟨q,e3,e⟩:=a_.mp e;cases e;obtain⟨a,vs,rfl,q1,r1⟩:=h1.tup s;obtain⟨b,us,rfl,q2,r2⟩:=h2.tup s;cases fJ e1 r1;cases fJ e2 r2;exact⟨a,b,ns,ms,q,rfl,rfl,q1,q2,e3,kq _ Z H (Ex.refl s) rfl⟩
theorem Mw(hr:bo k X.A)(ha:PD X ga l fa)(hb:PD X gb r fb):PB X (.Compare l [.LtE] [r] pos) (fB (ak KS fa fb)):=kU (Hu (by have:=hr.un;lia)) Mn ha hb (fV _)
end
end Mi
namespace Mi
open PySem PySem.Spec PyProof.Rows L2
section
variable {X:Cx}{rg:Gr}{pos:Pos}
end
def aJ:Wa->List α->Wb->Option α
 | k::ks,d::ds,q=>if k=q then some d else aJ ks ds q
 | _,_,_=>none
def cg:Wa->List α->Wb->α->List α
 | k::ks,d::ds,q,x=>(if k=q then x else d)::cg ks ds q x
 | _,ds,_,_=>ds
instance decK(q:Wb)(ks:Wa):Decidable (q∈ks):=decidable_of_iff ((ks.any λk=>decide (k=q))=true) (by simp)
def jS(ks:Wa)(q:Wb):Wa:=if q∈ks then ks else ks++[q]
def m8(ks:Wa)(ds:List α)(q:Wb)(x:α):List α:=if q∈ks then cg ks ds q x else ds++[x]
def DD(ks:Wa)(bs:VT)(q:Wb)(b:V8):VT:=if q∈ks then bs else bs++[b]
theorem xA(ks:Wa)(q:Wb):(jS ks q).length<=ks.length+1:=by unfold jS;split<;>simp
theorem oM(q:Wb)(x:α):∀(ks:Wa)(ds:List α),(cg ks ds q x).length=ds.length
 | [],ds=>by cases ds<;>simp[cg]
 | _::_,[]=>by simp[cg]
 | k::ks,d::ds=>by simp[cg,oM q x ks ds]
theorem qN(h:ds.length=ks.length)(q:Wb)(x:α):(m8 ks ds q x).length=(jS ks q).length:=by
 unfold m8 jS;split<;>simp[oM,h]
theorem wY(h:bs.length=ks.length)(q:Wb)(b:V8):(DD ks bs q b).length=(jS ks q).length:=by
 unfold DD jS;split<;>simp[h]
theorem iz:∀{ks:Wa}{ds:List α},q∉ks->aJ ks ds q=none
 | [],ds,_=>by cases ds<;>simp[aJ]
 | _::_,[],_=>by simp[aJ]
 | k::ks,d::ds,h=>by
  have h1:¬k=q:=λe=>h (by rw[e];exact f_);unfold aJ;rw[j_ h1];exact iz λh2=>h (d_ _ h2)
theorem sy:∀{ks:Wa}{ds:List α},ds.length=ks.length->q∈ks->∃d,aJ ks ds q=some d
 | [],_,_,h=>nomatch h
 | _::_,[],h,_=>by simp at h
 | k::ks,d::ds,hl,h=>by
  unfold aJ
  by_cases e:k=q
  .exact⟨d,i_ e⟩
  .rw[j_ e];exact sy (by simpa using hl) ((o_.mp h).resolve_left λz=>e z.symm)
theorem Ec(hl:ds.length=ks.length):(aJ ks ds q).isSome=decide (q∈ks):=by
 by_cases h:q∈ks
 .obtain⟨d,e⟩:=sy hl h;rw[e,x_ h];rfl
 .rw[iz h,R_ h];rfl
theorem ai.look{K:Fg}{H:Hp}{q:Wb}:∀{ks:Wa}{ds:Wf}{vs:Wh}{d:D},ai K H ds vs->aJ ks ds q=some d->∃v,aJ ks vs q=some v/\Rep K H d v
 | [],ds,_,_,_,e=>by cases ds<;>simp[aJ]at e
 | _::_,[],_,_,_,e=>by simp[aJ]at e
 | k::ks,d::ds,_,d',⟨v,r,e1,h,t⟩,e=>by
  subst e1;unfold aJ at e ⊢
  by_cases z:k=q
  .rw[i_ z]at e ⊢;cases e;exact⟨v,rfl,h⟩
  .rw[j_ z]at e ⊢;exact ai.look t e
theorem ai.repl{K:Fg}{H:Hp}{q:Wb}{x:D}{y:V}(hx:Rep K H x y):∀{ks:Wa}{ds:Wf}{vs:Wh},ai K H ds vs->ai K H (cg ks ds q x) (cg ks vs q y)
 | [],ds,vs,h=>by
  have e1:cg [] ds q x=ds:=by cases ds<;>rfl
  have e2:cg [] vs q y=vs:=by cases vs<;>rfl
  rw[e1,e2];exact h
 | _::_,[],vs,h=>by cases(show vs=[]from h);exact h
 | k::ks,d::ds,_,⟨v,r,e1,h,t⟩=>by
  subst e1;unfold cg
  by_cases z:k=q
  .rw[i_ z,i_ z];exact⟨y,_,rfl,hx,ai.repl hx t⟩
  .rw[j_ z,j_ z];exact⟨v,_,rfl,h,ai.repl hx t⟩
theorem ai.put{K:Fg}{H:Hp}{q:Wb}{x:D}{y:V}(hx:Rep K H x y){ks:Wa}{ds:Wf}{vs:Wh}(h:ai K H ds vs):ai K H (m8 ks ds q x) (m8 ks vs q y):=by
 unfold m8
 split
 .exact ai.repl hx h
 .exact h.app (ai.one hx)
theorem aw.look:∀{ks:Wa}{vs:Wh}{us:VP}{v:V},aw vs us->aJ ks vs q=some v->∃u,aJ ks us q=some u/\RelV v u
 | [],vs,_,_,_,e=>by cases vs<;>simp[aJ]at e
 | _::_,_,_,_,.nil,e=>by simp[aJ]at e
 | k::ks,_,_,v,.cons r t,e=>by
  unfold aJ at e ⊢
  by_cases z:k=q
  .rw[i_ z]at e ⊢;cases e;exact⟨_,rfl,r⟩
  .rw[j_ z]at e ⊢;exact aw.look t e
theorem aw.look0:∀{ks:Wa}{vs:Wh}{us:VP},aw vs us->aJ ks vs q=none->aJ ks us q=none
 | [],_,us,_,_=>by cases us<;>simp[aJ]
 | _::_,_,_,.nil,_=>by simp[aJ]
 | k::ks,_,_,.cons r t,e=>by
  unfold aJ at e ⊢
  by_cases z:k=q
  .rw[i_ z]at e;cases e
  .rw[j_ z]at e ⊢;exact aw.look0 t e
theorem aw.repl(hx:RelV y u):∀{ks:Wa}{vs:Wh}{us:VP},aw vs us->aw (cg ks vs q y) (cg ks us q u)
 | [],vs,us,h=>by
  have e1:cg [] vs q y=vs:=by cases vs<;>rfl
  have e2:cg [] us q u=us:=by cases us<;>rfl
  rw[e1,e2];exact h
 | _::_,_,_,.nil=>.nil
 | k::ks,_,_,.cons r t=>by
  unfold cg
  by_cases z:k=q
  .rw[i_ z,i_ z];exact .cons hx (aw.repl hx t)
  .rw[j_ z,j_ z];exact .cons r (aw.repl hx t)
theorem pE(hx:RelV y u):∀{vs:Wh}{us:VP},aw vs us->aw (vs++[y]) (us++[u])
 | _,_,.nil=>.cons hx .nil
 | _,_,.cons r t=>.cons r (pE hx t)
theorem aw.put(hx:RelV y u)(h:aw vs us):aw (m8 ks vs q y) (m8 ks us q u):=by
 unfold m8
 split
 .exact aw.repl hx h
 .exact pE hx h
theorem eH(k:Wb)(ks:Wa)(b:V8)(bs:VT)(u:V0)(us:VP):gG (k::ks) (b::bs) (u::us)=(k,b,u)::gG ks bs us:=rfl
theorem lH:∀{ks:Wa}{bs:VT}{us:VP},bs.length=ks.length->us.length=ks.length->(gG ks bs us).map (·.1)=ks
 | [],_,_,_,_=>rfl
 | _::_,[],_,h,_=>by simp at h
 | _::_,_::_,[],_,h=>by simp at h
 | k::ks,b::bs,u::us,h1,h2=>by rw[eH,B_,lH (by simpa using h1) (by simpa using h2)]
theorem xD(h1:bs.length=ks.length)(h2:us.length=ks.length):(gG ks bs us).length=ks.length:=by
 have:=S0 List.length (lH h1 h2);simpa using this
theorem qA(q:Wb):∀{ks:Wa}{bs:VT}{us:VP},bs.length=ks.length->us.length=ks.length->(atKey (gG ks bs us) q).map (·.2)=aJ ks us q
 | [],_,us,_,_=>by cases us<;>rfl
 | _::_,[],_,h,_=>by simp at h
 | _::_,_::_,[],_,h=>by simp at h
 | k::ks,b::bs,u::us,h1,h2=>by
  have ih:=qA q (by simpa using h1) (by simpa using h2);rw[eH];unfold atKey at ih ⊢;unfold aJ;rw[List.find?_cons]
  by_cases e:k=q
  .rw[i_ e,show decide ((k,b,u).1=q)=true by simpa using e];rfl
  .rw[j_ e,show decide ((k,b,u).1=q)=false by simpa using e];exact ih
theorem IE(q:Wb)(h1:bs.length=ks.length)(h2:us.length=ks.length):(atKey (gG ks bs us) q).isSome=decide (q∈ks):=by
 rw[<- Ec h2,<- qA q h1 h2,Option.isSome_map]
theorem sr(q:Wb)(u':V0):∀{ks:Wa}{bs:VT}{us:VP},bs.length=ks.length->us.length=ks.length->(gG ks bs us).map (putAt q u')=gG ks bs (cg ks us q u')
 | [],_,us,_,_=>by cases us<;>rfl
 | _::_,[],_,h,_=>by simp at h
 | _::_,_::_,[],_,h=>by simp at h
 | k::ks,b::bs,u::us,h1,h2=>by
  rw[eH,B_,sr q u' (by simpa using h1) (by simpa using h2)];rw[show cg (k::ks) (u::us) q u'=(if k=q then u' else u)::cg ks us q u' from rfl,eH];congr 1;unfold putAt
  by_cases e:k=q
  .rw[i_ e,i_ e]
  .rw[j_ e,j_ e]
theorem uC(q:Wb)(b':V8)(u':V0):∀{ks:Wa}{bs:VT}{us:VP},bs.length=ks.length->us.length=ks.length->gG (ks++[q]) (bs++[b']) (us++[u'])=gG ks bs us++[(q,b',u')]
 | [],[],[],_,_=>rfl
 | [],_::_,_,h,_=>by simp at h
 | [],[],_::_,_,h=>by simp at h
 | _::_,[],_,h,_=>by simp at h
 | _::_,_::_,[],_,h=>by simp at h
 | k::ks,b::bs,u::us,h1,h2=>by
  rw[Sw,Sw,Sw,eH,eH,Sw,uC q b' u' (by simpa using h1) (by simpa using h2)]
theorem nk(q:Wb)(b:V8)(u:V0)(h1:bs.length=ks.length)(h2:us.length=ks.length):storedH (gG ks bs us) q b u=gG (jS ks q) (DD ks bs q b) (m8 ks us q u):=by
 unfold storedH jS DD m8;rw[IE q h1 h2]
 by_cases h:q∈ks
 .rw[x_ h,i_ rfl,i_ h,i_ h,i_ h,sr q u h1 h2]
 .rw[R_ h,j_ (by simp),j_ h,j_ h,j_ h,uC q b u h1 h2]
theorem Fw(h:x∈gG ks bs us):∃i:Nat,ks[i]?=some x.1/\bs[i]?=some x.2.1:=by
 obtain⟨i,hi⟩:=T8.mp h;obtain⟨a1,a2⟩:=Tp.mp hi;exact⟨i,a1,(Tp.mp a2).1⟩
theorem fH.put{K:Fg}{H:Hp}{ks:Wa}{bs:VT}(r:fH K H ks bs)(hl:bs.length=ks.length){q:Wb}{b:V8}(hq:c7 K H b (q.map kV)):fH K H (jS ks q) (DD ks bs q b):=λi k b' h1 h2=>by
 unfold jS at h1;unfold DD at h2
 split at h1
 .rw[i_ ‹_›]at h2;exact r i k b' h1 h2
 .rw[j_ ‹_›]at h2
  by_cases hi:i<ks.length
  .rw[D_ hi]at h1;rw[D_ (by rw[hl];exact hi)]at h2;exact r i k b' h1 h2
  .rw[q_ (by lia)]at h1;rw[q_ (by rw[hl];lia)]at h2;have hz:i-ks.length=0:=by
    have:=(s_.mp h1).1;simp at this;lia
   rw[hz]at h1;rw[hl,hz]at h2;cases h1;cases h2;exact hq
theorem Bg(P:V2)(w:V5):DE (hashStr w)=entryOfKey (tupleKind (aF P w)):=by
 funext x;unfold DE entryOfKey;congr 1
section
variable {P:V2}{w:V5}{a:V8}{ks:Wa}{bs:VT}{vs:Wh}{h:V4}
theorem xI(d:h.DictOfH (tupleKind (aF P w)) a (gG ks bs us))(hv:aw vs us)(h1:bs.length=ks.length)(h2:us.length=ks.length)(hs:(a==sysModules)=false)(hz:ks.length<=16000000):ck (hashStr w) a ks bs vs h:=by
 obtain⟨o,es,ep,e1,e2,e3,e4,_,e6⟩:=d;rw[lH h1 h2]at e6;exact⟨o,es,ep,us,e1,e2,e3,hv,by rw[e4,Bg P w],e6,hs,hz,h1,h2⟩
theorem fX(th:Str->Int)(a:V8)(ks:Wa)(bs:VT)(vs:Wh):∀h1 h2:V4,ck th a ks bs vs h1->(∀o,h1.get? a=some o->h2.get? a=some o)->ck th a ks bs vs h2:=λh1 h2 ⟨o,es,ep,us,e,r⟩ k=>⟨o,es,ep,us,k o e,r⟩
end
section
variable {X:Cx}{rg:Gr}{l r:V9}{fa fb:Fe}{ga gb:Gr}{pos p:Pos}{k:Nat}
theorem jw{pins σ H s}(I:Inv X pins σ H s)(hq:c7 X.K H b (q.map kV)):(tupleKind (aF X.prog X.w)).is s.heap q b:=by
 obtain⟨bu,rv,⟨o,h1,h2,n',h3⟩,_⟩:=I.tuple hq;exact⟨o,bu.toArray,n',h1,h2,h3,by simpa using ki rv⟩
theorem mM{pins σ H s}(I:Inv X pins σ H s)(hc:H c=some (.ext (ck (hashStr X.w) c ks bs vs)))(hp:fH X.K H ks bs) :
  ∃us,aw vs us/\bs.length=ks.length/\us.length=ks.length/\s.heap.DictOfH (tupleKind (aF X.prog X.w)) c (gG ks bs us)/\(c==sysModules)=false/\ks.length<=16000000:=by
 have hS:ck (hashStr X.w) c ks bs vs s.heap:=(show bp X.prog X.w H s.heap c (.ext (ck (hashStr X.w) c ks bs vs))from I.hok c _ hc).1;obtain⟨o,es,ep,us,e1,e2,e3,hv,e4,e5,e6,e7,h1,h2⟩:=hS;refine⟨us,hv,h1,h2,⟨o,es,ep,e1,e2,e3,by rw[e4,Bg X.prog X.w],λx hx=>?_,by rw[lH h1 h2];exact e5⟩,e6,e7⟩;obtain⟨i,a1,a2⟩:=Fw hx;exact jw I (hp i _ _ a1 a2)
def Nx:Wf->Option Wb
 | []=>some []
 | .int i::ds=>(Nx ds).map (.inl i::·)
 | .str x::ds=>(Nx ds).map (.inr x::·)
 | _=>none
theorem ie{K:Fg}{H:Hp}:∀{ds:Wf}{vs:Wh}{q:Wb},ai K H ds vs->Nx ds=some q->vs=q.map kV
 | [],vs,_,h,e=>by cases e;exact h
 | .int i::ds,_,_,⟨v,r,e1,h,t⟩,e=>by
  obtain⟨q',e2,rfl⟩:=K_.mp e;rw[e1,ie t e2,show v=V.int i from h];rfl
 | .str x::ds,_,_,⟨v,r,e1,h,t⟩,e=>by
  obtain⟨q',e2,rfl⟩:=K_.mp e;rw[e1,ie t e2,show v=V.str x from h.1];rfl
 | .non::_,_,_,_,e=>by cases e
 | .bl _::_,_,_,_,e=>by cases e
 | .tup _::_,_,_,_,e=>by cases e
 | .lst _::_,_,_,_,e=>by cases e
 | .dct _::_,_,_,_,e=>by cases e
 | .st _::_,_,_,_,e=>by cases e
 | .ln _::_,_,_,_,e=>by cases e
 | .mp _ _ _::_,_,_,_,e=>by cases e
 | .ix _ _ _::_,_,_,_,e=>by cases e
 | .nt _ _::_,_,_,_,e=>by cases e
 | .ob _ _::_,_,_,_,e=>by cases e
def iK:D->Option Wb
 | .tup ts=>Nx ts
 | _=>none
theorem lC{K:Fg}{Z H H0:Hp}{g:Gr}{d:D}{v:V}{q:Wb}(s:aD Z H)(h:Gd K Z H0 H g d v)(e:iK d=some q):∃b,v=.ref b/\c7 K H b (q.map kV):=by
 cases d<;>try cases e
 obtain⟨b,vs,rfl,hq,rr⟩:=h.tup s;rw[ie rr e]at hq;exact⟨b,rfl,hq⟩
open Classical in
noncomputable def GF(th:Str->Int):D->Option (Wa×Wf)
 | .mp FQ ks ds=>if FQ=th then some (ks,ds)else none
 | _=>none
open Classical in
theorem mS(h:GF th d=some x):d=.mp th x.1 x.2:=by
 cases d<;>try cases h
 unfold GF at h;obtain⟨rfl,rfl⟩:=rh h
 rfl
open Classical in
theorem z6(th:Str->Int)(ks:Wa)(ds:Wf):GF th (.mp th ks ds)=some (ks,ds):=by show(if th=th then some (ks,ds)else none)=_;rw[i_ rfl]
noncomputable def getM(th:Str->Int)(x y:D):Wg:=(GF th x).bind λm=>(iK y).bind λq=>aJ m.1 m.2 q
def Gn(K:Fg)(th:Str->Int):R2:=λx y H Q=>∃(a b:V8)(ks:Wa)(bs:VT)(vs:Wh)(q:Wb)(v:V),x=.ref a/\H a=some (.ext (ck th a ks bs vs))/\fH K H ks bs/\y=.ref b/\c7 K H b (q.map kV)/\aJ ks vs q=some v/\Q v H
theorem D1(hu:X.A.units+1<cLine)(ho:PE X o td)(hi:PE X i ty)(hs:x8 i):PE X (.Subscript o i pos) (HP (Gn X.K (hashStr X.w)) td ty):=by
 intro pins s σ H Q I h;refine xi Vj.lookup hs (bB (ho pins s σ H _ I h) λu s1 ⟨x,H1,I1,rx,q1⟩=>bB (hi pins s1 σ H1 _ I1 q1) λiv s2 az=>?_);obtain⟨y,H2,I2,ry,a,b,ks,bs,vs,q,v,ex,hc,hp,ey,hq,hl,q2⟩:=az;subst ex ey;obtain rfl:u=Value.ref a:=rx;obtain rfl:iv=Value.ref b:=ry;obtain⟨us,hv,h1,h2,dd,wc,hz⟩:=mM I2 hc hp;obtain⟨w',e1,e2⟩:=aw.look hv hl;rw[<- qA q h1 h2]at e1;obtain⟨pr,e3,e4⟩:=K_.mp e1;exact⟨dd.typeIs,wpAny_getItem_heap (T3 hu) (jw I2 hq) dd e3 (by rw[e4];exact⟨v,H2,I2.tok _,e2,q2⟩)⟩
theorem Iy{K:Fg}{th:Str->Int}:cX K .cl (getM th) (Gn K th):=λ{Z H x y dx dy d Q} s h1 h2 e kq=>by
 obtain⟨m,e1,e⟩:=a_.mp e;obtain⟨q,e2,e3⟩:=a_.mp e;cases mS e1;obtain⟨a,rfl,bs,vs,hc,hp,rr⟩:=h1.mp s;obtain⟨b,rfl,hq⟩:=lC s h2 e2;obtain⟨v,e4,e5⟩:=rr.look e3;exact⟨a,b,m.1,bs,vs,q,v,rfl,hc,hp.mono s,rfl,hq,e4,kq v Z H (Ex.refl s) e5⟩
theorem vy(hw:th=hashStr X.w)(hr:bo k X.A)(ha:PD X ga l fa)(hb:PD X gb r fb)(hs:x8 r:=by intro _ _;rfl):PD X .cl (.Subscript l r pos) (ak (getM th) fa fb):=by
 subst hw;exact PE.imp (D1 (oW hr) ha hb hs) λ_ _ _ h=>gf Iy h
end
section
variable {X:Cx}{rg:Gr}{l r:V9}{fa fb:Fe}{ga gb:Gr}{pos p:Pos}{k:Nat}
theorem HN(hw:th=hashStr X.w):PD X .nm (.Dict [] [] pos) (fC (.mp th [] [])):=λpins s σ H Q I hT=>by
 subst hw;obtain⟨env,B,Z,d,R,e,k⟩:=hT;cases e;have hf:=I.hok.fresh (l_ s.sz);have hd:ck (hashStr X.w) s.sz [] [] [] (s.heap.push {cls:=.type "dict",data:=.dict #[]}):=⟨_,#[],0,[],p_ _ rfl,⟨rfl,rfl,rfl⟩,rfl,.nil,rfl,S5,by have:=I.big;simpa using (VD this),by simp,rfl,rfl⟩;exact wpAny_Dict_empty ⟨.ref s.sz,_,I.laid (o:=.ext (ck (hashStr X.w) s.sz [] [] [])) (λ_ _ q=>e_ _ q) (l_ _) ⟨hd,⟨_,p_ _ rfl⟩,fX _ _ _ _ _⟩,rfl,
  k _ Z _ (Ex.newL R.zh hf) ⟨s.sz,_,[],[],rfl,rfl,hf,⟨[],[],av,λi p b h=>by simp at h,rfl⟩,R.zh.free hf⟩⟩
def setM(i:Nat)(f:Fe):Fs:=λenv=>(f env).bind λd=>match d with | .mp th ks ds=>some (.nx (env.set i (.O (.M th ks ds)))) | _=>none
theorem yd(h:Ki X.K rg (setM i f) E σ H):vE (T X.K .nm f) (lU i) E σ H:=by
 refine cT λ_ kq=>?_;obtain⟨env,B,Z,o,R,e,k⟩:=h;obtain⟨d,e1,e2⟩:=a_.mp e;cases d<;>cases e2;rename_i th ks ds;refine kq (⟨env,B,Z,_,R,e1,λv Z' H' x g=>?_⟩)
 all_goals clear kq
 obtain⟨a,FQ,Jz,Jy,rfl,e3,h1,⟨bs,vs,h2,hp,rr⟩,h3⟩:=g;cases e3;refine k _ Z' H' (x.part R.bh) ((R.ext x).setO i (R.bh.free h1) h3 h2 (show dq X.K Z' a (.M th ks ds) _ from⟨bs,vs,rfl,hp,rr⟩) λj es hj hje hja=>?_);obtain⟨y,e4,b,us,e5,e6,_⟩:=R.sl j _ hje;rw[hja]at e4;cases e4;cases e5;rw[h1]at e6;cases e6
theorem Je(i:Nat)(he:PD X .nm e fe)(hN:X.N.Nodup)(hi:X.N[i]?=some x:=by rfl)(hx:Loc X.env.scope x:=by first | exact Or.inl rfl | exact Or.inr rfl)(hs:swapsWith e (some (.Name x pos')) pos.line X.env=pure false:=by rfl)
  (hf:X.fn x=true\/X.env.scope.names.lookup x=some .local:=by first | exact .inl rfl | exact .inr rfl | assumption):SD X rg (.Assign [.Name x pos'] e pos) (setM i fe):=PS.imp (jY hN hi hx he hs hf) λE σ H h=>yd h
def HM(i:Nat):Fs:=λenv=>match env[i]? with
 | some (.O (.M th ks ds))=>some (.rt (.mp th ks ds))
 | _=>none
theorem IQ(i:Nat)(hN:X.N[i]?=some x:=by rfl)(hv:qP X.env.scope x:=by first | exact Or.inl rfl | exact Or.inr (Or.inl rfl) | exact Or.inr (Or.inr rfl))(hd:(x==("__debug__":Str))=false:=by decide)
  (eM:(x==("__classdict__":Str))=false:=by decide):SD X .nm (.Return (some (.Name x p)) pos) (HM i):=PS.imp (mo (cF hN hv hd eM)) λE σ H az=>by
 obtain⟨env,B,Z,o,R,e,k⟩:=az;unfold HM at e
 split at e
 .rename_i th ks ds hi;cases e;obtain⟨y,e1,a,o,e2,e3,e4,r⟩:=R.sl i _ hi;obtain⟨bs,vs,rfl,hp,rr⟩:=r;subst e2;exact⟨_,e1,k _ Z H ⟨R.bh,aD.refl _,R.zh,λ_ _ h=>h,λ_ _ _ h=>h⟩ ⟨a,th,ks,ds,rfl,rfl,R.ob i _ a hi e1,⟨bs,vs,e3,hp,rr⟩,e4⟩⟩
 .cases e
def Mj(K:Fg)(th:Str->Int)(td ty tv:TE):TS:=λD σ H=>tv σ H λv H1=>td σ H1 λx H2=>ty σ H2 λy H3=>∃(a b:V8)(ks:Wa)(bs:VT)(vs:Wh)(q:Wb),x=.ref a/\y=.ref b/\H3 a=some (.ext (ck th a ks bs vs))/\fH K H3 ks bs/\c7 K H3 b (q.map kV)/\ks.length<16000000/\
 (bs.length=ks.length->D.nx σ (upd H3 a (.ext (ck th a (jS ks q) (DD ks bs q b) (m8 ks vs q v)))))
theorem map_set{pins σ H s}(hu:A.units+1<cLine)(I:Inv X pins σ H s)
  (hc:H a=some (.ext (ck (hashStr X.w) a ks bs vs))) (hp:fH X.K H ks bs) (hq:c7 X.K H b (q.map kV)) (hl:ks.length<16000000) (rv:RelV v u)
  (h:∀s',bs.length=ks.length->Inv X pins σ (upd H a (.ext (ck (hashStr X.w) a (jS ks q) (DD ks bs q b) (m8 ks vs q v)))) s'->Q () s'):wpAny (model X.prog X.w) A (setItem (.ref a) (.ref b) u) Q E s:=by
 obtain⟨us,hv,h1,h2,dd,wc,hz⟩:=mM I hc hp;refine wpAny_setItem_heap (hsz:=by rw[xD h1 h2,Sr];lia) (T3 hu) (jw I hq) dd λh' dd' hs'=>?_;rw[nk q b u h1 h2]at dd';have hnew:=xI dd' (aw.put rv hv) (wY h1 q b) (qN h2 q u) wc (by have:=xA ks q;lia);have he:∃u,h'.get? a=some u:=by obtain⟨o,_,_,_,e,_⟩:=hnew;exact⟨o,e⟩
 exact h _ h1 (I.write (by rw[hc];exact True.intro) (.inl rfl) (λb u hb z=>(hs'.2 b hb).trans z) he ⟨hnew,he,fX _ _ _ _ _⟩)
theorem EI(hu:X.A.units+1<cLine)(ho:PE X o td)(hi:PE X i ty)(hv:PE X value tv)(hs:swapsWith value (some (.Subscript o i pos')) pos.line X.env=pure false) :
  PS X (.Assign [.Subscript o i pos'] value pos) (Mj X.K (hashStr X.w) td ty tv):=by
 intro pins s σ H D I h;refine wpAny_Assign_Subscript (bB (hv pins s σ H _ I h) λr s1 ⟨v,H1,I1,rv,q1⟩=>bB (ho pins s1 σ H1 _ I1 q1) λu s2 ⟨x,H2,I2,rx,q2⟩=>bB (hi pins s2 σ H2 _ I2 q2) λiv s3 az=>?_) hs;obtain⟨y,H3,I3,ry,a,b,ks,bs,vs,q,ex,ey,hc,hp,hq,hl,q3⟩:=az;subst ex ey;cases(show u=Value.ref a from rx);cases(show iv=Value.ref b from ry);exact map_set hu I3 hc hp hq hl rv λs4 z I4=>⟨σ,_,I4,q3 z⟩
open Classical in
noncomputable def HQ(th:Str->Int)(i:Nat)(fv fk:Fe):Fs:=λenv=>(fv env).bind λd=>(fk env).bind λkd=>(iK kd).bind λq=>match env[i]? with
 | some (.O (.M FQ ks ds))=>if FQ=th/\ks.length<16000000 then some (.nx (env.set i (.O (.M th (jS ks q) (m8 ks ds q d)))))else none
 | _=>none
open Classical in
theorem Jm(i:Nat)(hw:th=hashStr X.w)(hr:bo k X.A)(hv:PD X .cl value fv)(hk:PD X .cl key fk)(hN:X.N[i]?=some x:=by rfl)(N6:qP X.env.scope x:=by first | exact Or.inl rfl | exact Or.inr (Or.inl rfl) | exact Or.inr (Or.inr rfl))
  (hd:(x==("__debug__":Str))=false:=by decide) (eM:(x==("__classdict__":Str))=false:=by decide)
  (hs:swapsWith value (some (.Subscript (.Name x px) key p2)) pos.line X.env=pure false:=by rfl) :
  SD X rg (.Assign [.Subscript (.Name x px) key p2] value pos) (HQ th i fv fk):=by
 subst hw;refine PS.imp (EI (oW hr) (cF hN N6 hd eM) hk hv hs) λE σ H az=>?_;obtain⟨env,B,Z,o,R,e,kq⟩:=az;obtain⟨d,e1,e⟩:=a_.mp e;obtain⟨kd,e2,e⟩:=a_.mp e;obtain⟨q,e7,e⟩:=a_.mp e;refine⟨env,B,Z,d,R,e1,λv Z1 H1 x1 g1=>?_⟩
 split at e
 .rename_i FQ ks ds hi;obtain⟨⟨rfl,hlen⟩,rfl⟩:=rh e;have R1:=R.ext x1;obtain⟨y,e3,c,o,e4,e5,e6,bs,vs,rfl,hp,rr⟩:=R1.sl i _ hi;subst e4;refine⟨_,e3,env,B,Z1,kd,R1,e2,λkv Z2 H2 x2 g2=>?_⟩;have R2:=R1.ext x2;obtain⟨b,rfl,hq⟩:=lC x2.zh (show Gd X.K Z2 H1 H2 .cl kd kv from g2) e7;have PP:c7 X.K Z2 b (q.map kV):=by
   cases kd<;>try cases e7
   obtain⟨b',vs',e8,rO,PQ⟩:=(show Rep X.K Z2 (.tup _) _ from g2);cases e8;rw[ie PQ e7]at rO;exact rO
  refine⟨c,b,ks,bs,vs,q,rfl,rfl,x2.h _ _ e5,(hp.mono x2.z).mono x2.zh,hq,hlen,λhl=>?_⟩;obtain⟨R3,x3⟩:=R2.wr hi e3 (show dq X.K _ c (.M _ (jS ks q) (m8 ks ds q d)) _ from⟨_,_,rfl,fH.put (hp.mono x2.z) hl PP,ai.put (Rep.mono x2.z d g1) (ai.mono x2.z ds rr)⟩);exact kq σ _ _ (((x1.trans x2).part R.bh).transB x3) R3
 .cases e
end
section
variable {X:Cx}{rg:Gr}{l r:V9}{fa fb:Fe}{ga gb:Gr}{pos p:Pos}{k:Nat}
def QV(K:Fg)(th:Str->Int)(H:Hp)(a:V8):Prop:=∃ks bs vs,H a=some (.ext (ck th a ks bs vs))/\fH K H ks bs
theorem Hz{pins σ H s}(I:Inv X pins σ H s)(d:QV X.K (hashStr X.w) H a):s.TypeIs (.ref a) "dict"/\(∀b,Value.ref a=.ref b->∃ob,s.heap.get? b=some ob/\ob.dict=none):=by
 obtain⟨ks,bs,vs,hc,hp⟩:=d;obtain⟨us,hv,h1,h2,dd,wc,hz⟩:=mM I hc hp;refine⟨dd.typeIs,λb q=>?_⟩;cases q;obtain⟨ob,_,_,e1,e2,_⟩:=dd;exact⟨ob,e1,e2.2.1⟩
def HW(K:Fg)(th:Str->Int)(td ty tx:TE):TE:=λσ H Q=>td σ H λx H1=>∃a,x=.ref a/\QV K th H1 a/\ty σ H1 λy H2=>tx σ H2 λz H3=>∃(b:V8)(ks:Wa)(bs:VT)(vs:Wh)(q:Wb),H3 a=some (.ext (ck th a ks bs vs))/\fH K H3 ks bs/\y=.ref b/\c7 K H3 b (q.map kV)/\Q ((aJ ks vs q).getD z) H3
theorem Ct(hu:X.A.units+1<cLine)(ho:PE X o td)(he:PE X e ty)(hf:PE X f tx)(m:M2 X o "get" apos e f bA):PE X (.Call (.Attribute o "get" apos) [e,f] [] bA) (HW X.K (hashStr X.w) td ty tx):=by
 intro pins s σ H Q I h;refine wpAny_Call_method m.base m.few m.line PySem.F.plainAttrs_dict PySem.F.slot_dict_get PySem.F.type_dict_get (bB (ho pins s σ H _ I h) λu s1 az=>?_);obtain⟨x,H1,I1,rx,a,ex,d,q1⟩:=az;subst ex;obtain rfl:u=Value.ref a:=rx;obtain⟨t1,t2⟩:=Hz I1 d;refine⟨t1,t2,?_⟩;rw[m.trees];refine Calls.callWith_builtin rfl (Calls.evalArgs_plain (Vc (bB (he pins s1 σ H1 _ I1 q1) λiv s2 ⟨y,H2,I2,ry,q2⟩=>Vc (bB (hf pins s2 σ H2 _ I2 q2) λfv s3 ⟨z,H3,I3,rz,b,ks,bs,vs,q,hc,hp,ey,hq,q3⟩=>Calls.spliced_nil ?_))));subst ey;obtain rfl:iv=Value.ref b:=ry;obtain⟨us,hv,h1,h2,dd,wc,hz⟩:=mM I3 hc hp;refine call_meetsIn PySem.F.slot_dict_get dd.typeIs PySem.F.entry_dict_get (PySem.F.args_dict_get_3 _ _ _) (meetsH_dict_get_default (tupleKind (aF X.prog X.w)) a b wc fv) ⟨T3 hu,q,_,jw I3 hq,dd,⟨_,H3,I3.tok _,?_,q3⟩⟩;rw[qA q h1 h2];cases e:aJ ks vs q with
 | none=>rw[aw.look0 hv e];exact rz
 | some v=>
  obtain⟨w',e1,e2⟩:=aw.look hv e;rw[e1];exact e2
noncomputable def w5(th:Str->Int)(fa fk fx:Fe):Fe:=λenv=>(fa env).bind λd=>(fk env).bind λkd=>(fx env).bind λx=>(GF th d).bind λm=>(iK kd).bind λq=>some ((aJ m.1 m.2 q).getD x)
theorem EG(hw:th=hashStr X.w)(hr:bo k X.A)(ha:PD X ga o fa)(hk:PD X gb e fk)(hx:PD X .cl f fx)
  (h1:attributeBase o "get" X.env (eval o X.env)=eval o X.env:=by rfl) (h2:((backTo bA (starEach [e,f] X.env)).all (λx=>!x.1)&&(backToKw bA (keywordEach [] X.env)).all (λx=>x.1.isSome)
   && decide (([e,f]:VU).length+([]:List Keyword).length+(if([]:List Keyword).isEmpty then 0 else 1)<30))=true:=by rfl) (h3:(apos.endLine==bA.line)=true:=by rfl)
  (h4:backTo bA (starEach [e,f] X.env)=[(false,eval e X.env),(false,eval f X.env)]:=by rfl):PD X .cl (.Call (.Attribute o "get" apos) [e,f] [] bA) (w5 th fa fk fx):=by
 subst hw;refine PE.imp (Ct (oW hr) ha hk hx ⟨h1,h2,h3,h4⟩) λσ H Q az=>?_;obtain⟨env,B,Z,d,R,e,kq⟩:=az;obtain⟨dm,e1,e⟩:=a_.mp e;obtain⟨kd,e2,e⟩:=a_.mp e;obtain⟨xd,e3,e⟩:=a_.mp e;obtain⟨m,e4,e⟩:=a_.mp e;obtain⟨q,e5,e⟩:=a_.mp e;cases e;cases mS e4;refine⟨env,B,Z,_,R,e1,λv Z1 H1 x1 g1=>?_⟩;obtain⟨a,rfl,bs,vs,hc,hp,rr⟩:=g1.mp x1.zh;refine⟨a,rfl,⟨m.1,bs,vs,hc,hp.mono x1.zh⟩,env,B,Z1,kd,R.ext x1,e2,λy Z2 H2 x2 g2=>⟨env,B,Z2,xd,(R.ext x1).ext x2,e3,λz Z3 H3 x3 g3=>?_⟩⟩;obtain⟨b,rfl,hq⟩:=lC x3.zh (Gd.later (H3:=H3) x3 g2) e5;refine⟨b,m.1,bs,vs,q,x3.h _ _ (x2.h _ _ hc),((hp.mono x2.z).mono x3.z).mono x3.zh,rfl,hq,?_⟩;have x0:=(x1.trans x2).trans x3;cases e6:aJ m.1 m.2 q with
 | none=>
  have e7:aJ m.1 vs q=none:=by
   cases e8:aJ m.1 vs q with
   | none=>rfl
   | some v=>
    exfalso;have hm:q∈m.1:=by
     by_cases h:q∈m.1
     .exact h
     .rw[iz h]at e8;cases e8
    have hl:m.2.length=vs.length:=rr.len;have:∀{ks:Wa}{ds:Wf}{vs:Wh},ds.length=vs.length->aJ ks ds q=none->aJ ks vs q=none:=by
     intro ks
     induction ks with
     | nil=>intro ds vs _ _;cases vs<;>rfl
     | cons k0 ks ih=>
      intro ds vs hl h;cases ds with
      | nil=>cases vs with
       | nil=>rfl
       | cons _ _=>simp at hl
      | cons d0 ds=>cases vs with
       | nil=>simp at hl
       | cons v0 vs=>
        unfold aJ at h ⊢
        by_cases z:k0=q
        .rw[i_ z]at h;cases h
        .rw[j_ z]at h ⊢;exact ih (by simpa using hl) h
    rw[this hl e6]at e8;cases e8
  rw[e6]at kq;rw[e7];exact kq z Z3 H3 x0 g3
 | some d=>
  obtain⟨v,e7,e8⟩:=rr.look e6;rw[e6]at kq;rw[e7];exact kq v Z3 H3 x0 (Rep.mono (x2.z.trans x3.z) d e8)
end
def era(Z:Hp)(a:V8):Hp:=λb=>if b=a then none else Z b
section
variable {X:Cx}{e:V9}{f:Fe}
end
section
variable {prog:V2}{w:V5}{A:V3}{E:VH}{s:V1}{it d:V8}{i n ep:Nat}{es:Array DictEntry}{od:Obj}{y z:V0}
end
section
variable {X:Cx}{es:VU}{kk:Nat}{tp:Pos}
end
def kD:Key->D
 | .inl i=>.int i
 | .inr x=>.str x
def Kl(k:Wb):Bool:=k.all λx=>match x with | .inl _=>true | .inr x=>PyData.strOk x
theorem rJ{K:Fg}{H:Hp}:∀{k:Wb},Kl k=true->ai K H (k.map kD) (k.map kV)
 | [],_=>rfl
 | .inl i::k,h=>⟨_,_,rfl,rfl,rJ (k:=k) (by unfold Kl at h ⊢;simpa using h)⟩
 | .inr x::k,h=>by
  unfold Kl at h;rw[Vv,C_]at h;exact⟨_,_,rfl,⟨rfl,h.1⟩,rJ (k:=k) h.2⟩
section
variable {X:Cx}{es:VU}{kk:Nat}{tp:Pos}
end
def Ah(m:Wa×Wf)(q:Wb)(d:D):Wa×Wf:=(jS m.1 q,m8 m.1 m.2 q d)
def foldM(m:Wa×Wf):Wf->Option (Wa×Wf)
 | []=>some m
 | .tup [k,v]::r=>(iK k).bind λq=>foldM (Ah m q v) r
 | _::_=>none
theorem pI:∀{xs:Wf}{m m':Wa×Wf}{k v:D}{q:Wb},foldM m xs=some m'->iK k=some q->foldM m (xs++[.tup [k,v]])=some (Ah m' q v)
 | [],m,m',k,v,q,h,hk=>by
  cases h;show(iK k).bind _=_;rw[hk];rfl
 | x::r,m,m',k,v,q,h,hk=>by
  unfold foldM at h
  split at h
  .rename_i e;cases e
  .rename_i k' v' r' e;cases e;obtain⟨q',h1,h2⟩:=a_.mp h;show(iK k').bind _=_;rw[h1];exact pI h2 hk
  .cases h
section
variable {kx vx:V9}{gens:VO}{scope:V7}{pos:Pos}{d:Nat}{tg iter:V9}{ifs:VU}{it:V0}{a:V8}{env:Env}
theorem m4(h:gens[d]?=some ⟨tg,iter,ifs,0⟩)(h2:gens[d+1]?=none):compTurn (.DictComp kx vx gens scope pos) d it (.ref a) env=wC (.DictComp kx vx gens scope pos) tg iter ifs d it (.ref a) env (do let kv <- eval kx env;let vv <- holding [kv] (eval vx env);standAt {kx.pos with endLine:=vx.pos.endLine,endCol:=vx.pos.endCol};holding [kv,vv] (dictSet a kv vv)):=by
 unfold compTurn;simp only[h,h2]
 rfl
theorem vB(h:gens[d]?=some ⟨tg,iter,ifs,0⟩)(h2:gens[d+1]?=some ⟨uI,bT,jP,0⟩):compTurn (.DictComp kx vx gens scope pos) d it (.ref a) env=wZ (.DictComp kx vx gens scope pos) tg iter bT ifs d it (.ref a) env:=by
 unfold compTurn;simp only[h,h2]
 rfl
theorem Mh{P:V2}{w:V5}:Da P w (.DictComp kx vx gens scope pos):=⟨λh=>h,λh=>h⟩
end
abbrev qM(K:Fg)(w:V5)(a:V8):Qa:=λ_ Z H pre=>∃m bs vs,foldM ([],[]) pre=some m/\m.1.length<=pre.length/\H a=some (.ext (ck (hashStr w) a m.1 bs vs))/\fH K Z m.1 bs/\ai K Z m.2 vs
theorem FZ{K:Fg}{w:V5}{a:V8}:C' a (qM K w a):=⟨λ⟨_,_,_,_,_,h,_⟩ z=>(by rw[z]at h;cases h),λx ⟨m,bs,vs,h1,h2,h3,h4,h5⟩=>⟨m,bs,vs,h1,h2,x.h _ _ h3,h4.mono x.z,ai.mono x.z _ h5⟩⟩
section
variable {X:Cx}{a:V8}{kx vx:V9}{fk fv:Fe}
def gz(fk fv:Fe):Wc:=λenv=>(fk env).bind λk=>(fv env).bind λv=>(iK k).bind λ_=>some [.tup [k,v]]
abbrev Eb(X:Cx)(a:V8)(kx vx:V9):BdT:=NO X (do let kv <- eval kx X.env;let vv <- holding [kv] (eval vx X.env);standAt {kx.pos with endLine:=vx.pos.endLine,endCol:=vx.pos.endCol};holding [kv,vv] (dictSet a kv vv))
theorem y0(hu:X.A.units+1<cLine)(hx:∀e s,¬X.xe e s)(h:PD X .cl kx fk)(h':PD X .cl vx fv):u5 X (qM X.K X.w a) a (Eb X a kx vx) (gz fk fv):=by
 intro pins s σ H B Z env pre xs P E A e hl hP;refine cT λ_ kq=>?_;obtain⟨k,e1,e⟩:=a_.mp e;obtain⟨v,e2,e⟩:=a_.mp e;obtain⟨q,e3,e⟩:=a_.mp e;cases e;obtain⟨m,bs,vs,hm,NT,hv,hp,rr⟩:=A.ac;refine kq (b_ (Sx (h pins s σ H _ A.I ⟨env,B,Z,k,A.R,e1,λv Z1 H1 x1 g1=>(show ∃Z1,Ex Z H Z1 H1/\Rep X.K Z1 k v from⟨Z1,x1,g1⟩)⟩) (λu s1 az=>?_) λe s z=>(hx e s z).elim))
 all_goals clear kq
 obtain⟨y,H1,I1,r1,Z1,x1,g1⟩:=az;refine b_ (L_ (Sx (h' pins s1 σ H1 _ I1 ⟨env,B,Z1,v,A.R.ext x1,e2,λw Z2 H2 x2 g2=>(show ∃Z2,Ex Z1 H1 Z2 H2/\Rep X.K Z2 v w from⟨Z2,x2,g2⟩)⟩) (λu2 s2 az=>?_) λe s z=>(hx e s z).elim));refine cT λ_ kq=>?_;obtain⟨w,H2,I2,r2,Z2,x2,g2⟩:=az;have x0:=x1.trans x2;have hne:H a≠none:=by rw[hv];simp
 have hv2:=x0.h _ _ hv;have hz2:=x0.fr a hne A.hz;have R2:=A.R.ext x0;obtain⟨b,rfl,hq⟩:=lC x2.zh (show Gd X.K Z2 H2 H2 .cl k y from Rep.mono x2.z k g1) e3;have PP:c7 X.K Z2 b (q.map kV):=by
  cases k<;>try cases e3
  obtain⟨b',vs',e8,rO,PQ⟩:=(show Rep X.K Z2 (.tup _) _ from Rep.mono x2.z _ g1);cases e8;rw[ie PQ e3]at rO;exact rO
 cases(show u=Value.ref b from r1);have hp2:=hp.mono x0.z;obtain⟨us,N7,l1,l2,dd,wc,hz⟩:=mM I2 hv2 (hp2.mono x0.zh);refine kq (b_ (SI (L_ ?_)))
 all_goals clear kq
 refine wpAny_dictSet_heap (hsz:=by rw[xD l1 l2,Sr];simp at hl;lia) (show(tupleKind (aF X.prog X.w)).room X.A from Nat.lt_of_succ_lt hu) (jw I2 hq) dd λh2 dd' hs'=>?_;rw[nk q b u2 l1 l2]at dd';have hkl:=xA m.1 q;have hnew:=xI dd' (aw.put r2 N7) (wY l1 q b) (qN l2 q u2) wc (by simp at hl;lia);have he:∃u,h2.get? a=some u:=by obtain⟨o,_,_,_,e,_⟩:=hnew;exact⟨o,e⟩
 have I3:=I2.write (t':=s2.toks+(tupleKind (aF X.prog X.w)).draws q) (o:=.ext (ck (hashStr X.w) a (jS m.1 q) (DD m.1 bs q b) (m8 m.1 vs q w))) (by rw[hv2];exact True.intro) (.inl rfl) (λb u hb z=>(hs'.2 b hb).trans z) he ⟨hnew,he,fX _ _ _ _ _⟩;refine hP _ σ _ Z2 ⟨I3,R2.other A.hb hz2 A.nO,A.nO,A.hb,hz2,Ah m q v,_,_,pI hm e3,?_,av,fH.put hp2 l1 PP,ai.put g2 (ai.mono x0.z _ rr)⟩ ⟨bU R2.bh A.hb,x0.z,bU R2.zh hz2,λb hb e=>x0.fr b (fY A.R.bh hb) e,x0.nf⟩;show(jS m.1 q).length<=_;simp;lia
end
abbrev yi(X:Cx)(a:V8)(kx vx:V9)(gens:VO)(scope:V7)(pos:Pos)(d:Nat)(tg:V9)(ifs:VU)(t:Ft)(c:Fb)(k:Wc):Prop:=JF X (qM X.K X.w a) a (.DictComp kx vx gens scope pos) d tg ifs t c k
section
variable {X:Cx}{a:V8}{kx vx:V9}{gens:VO}{scope:V7}{pos:Pos}{d:Nat}{tg iter uI bT:V9}{ifs jP:VU}{t t':Ft}{c c':Fb}{k:Wc}{fe fk:Fe}{fi:Fi}{is:VW}
theorem oR(hu:X.A.units+1<cLine)(hx:∀e s,¬X.xe e s)(hg:GD X tg t)(zK:BJ X ifs c)(hk:PD X .cl kx fk)(he:PD X .cl vx fe)(h:gens[d]?=some ⟨tg,iter,ifs,0⟩:=by rfl)(h2:gens[d+1]?=none:=by rfl):yi X a kx vx gens scope pos d tg ifs t c (gz fk fe):=
 ⟨hg,zK,_,y0 hu hx hk he,λ_=>qk (m4 h h2)⟩
theorem yO(hx:∀e s,¬X.xe e s)(bq:X.calm=true)(hg:GD X tg t)(zK:BJ X ifs c)(hi:ID X uI bT fi)(ht:kI is t')(b:yi X a kx vx gens scope pos (d+1) uI jP t' c' k)
  (h:gens[d]?=some ⟨tg,iter,ifs,0⟩:=by rfl) (h2:gens[d+1]?=some ⟨uI,bT,jP,0⟩:=by rfl) (hs:∀x,foldedSetIterable bT X.env x=pure x:=by intro _;rfl):yi X a kx vx gens scope pos d tg ifs t c (dH fi is t' c' k):=by
 obtain⟨Bd,kJ,zL⟩:=b.ex;exact⟨hg,zK,_,uD Mh FZ hx bq h2 hi b.g ht b.ts kJ zL,λ_=>xl (vB h h2) hs⟩
end
def hZ(th:Str->Int)(fi:Fi)(is:VW)(t:Ft)(c:Fb)(k:Wc)(n:Nat)(caps:VW):Fe:=λenv=>(fi env).bind λds=>if cf is (bM n caps env)=true then(dN t c k (bM n caps env) ds).bind λxs=>if xs.length<=16000000 then(foldM ([],[]) xs).bind λm=>some (.mp th m.1 m.2)else none else none
theorem tM(h:hZ th fi is t c k n caps env=some d) :
  ∃ds xs m,fi env=some ds/\cf is (bM n caps env)=true/\dN t c k (bM n caps env) ds=some xs/\xs.length<=16000000/\foldM ([],[]) xs=some m/\d=.mp th m.1 m.2:=by
 obtain⟨ds,e1,e2⟩:=a_.mp h
 by_cases hu:cf is (bM n caps env)=true
 .rw[i_ hu]at e2;obtain⟨xs,e3,e4⟩:=a_.mp e2
  by_cases hl:xs.length<=16000000
  .rw[i_ hl]at e4;obtain⟨m,e5,e6⟩:=a_.mp e4;cases e6;exact⟨ds,xs,m,e1,hu,e3,hl,e5,rfl⟩
  .rw[j_ hl]at e4;cases e4
 .rw[j_ hu]at e2;cases e2
section
variable {X:Cx}{kx vx:V9}{rest:VO}{scope:V7}{pos:Pos}{tg iter:V9}{ifs:VU}{t:Ft}{c:Fb}{k:Wc}{fi:Fi}{is caps:VW}{cl:VM}{Nc own:VS}
theorem vQ(ht:kI is t)(bq:X.calm=true)(fo:fE (λx=>X.env.cells.lookup x) scope.names []=some cl)(bE:scope.kind=.function)(hnc:∀y∈scope.names,y.2≠.cell)
  (hN:Nc.map some=own.map some++caps.map (λj=>X.N[j]?)) (fj:g9 X scope caps=true)
  (hb:∀C s H ex pn a,yi (cS X scope cl Nc C s H ex pn) a kx vx (⟨tg,iter,ifs,0⟩::rest) scope pos 0 tg ifs t c k)
  {pins:VI} {σ:L2.St} {s2:V1} {H2 B Z2:Hp} {env:En} {ds xs:Wf} {E:VH} {RR:V0->V8->Result->V1->Prop} {it:V8} {fp:VT} {tn:Nat->V4->Prop} {J:It}
  (I2:Inv X pins σ H2 s2) (R2:Rl X.K B Z2 H2 env σ) (T:Turn X.prog X.w X.K tg J fp it tn) (uT:tn 0 s2.heap) (jR:∀b∈fp,bQ X pins H2 b) (wk:Walk X.K Z2 ds J) (hu:cf is (bM own.length caps env)=true)
  (uS:dN t c k (bM own.length caps env) ds=some xs) (hl:xs.length<=16000000)
  (MZ:∀(a C:V8)(H' Z':Hp)(s':V1)(mm:Wa×Wf)(bs:VT)(vs:Wh) m,Inv X pins σ H' s'->s'.heap.Ns C m->bQ X pins H' C->Ex Z2 H2 Z' H'->H2 a=none->foldM ([],[]) xs=some mm->H' a=some (.ext (ck (hashStr X.w) a mm.1 bs vs))->Z' a=none->fH X.K Z' mm.1 bs->ai X.K Z' mm.2 vs->RR (.ref a) C (.ok .next) s') :
  wpAny (model X.prog X.w) X.A (newDict) (λacc s₃=>wpAny (model X.prog X.w) X.A (newFunctionEnv scope X.env.globals cl [] X.env.qual none .none (some X.env)) (λDc s₄=>
   codeAny (model X.prog X.w) X.A (.compStart (.DictComp kx vx (⟨tg,iter,ifs,0⟩::rest) scope pos) 0 (.ref it) acc {Dc with scope:=relabel scope X.env}) (RR acc Dc.locals) s₄) E s₃) E s2:=by
 refine SH ?_;have hf:H2 s2.sz=none:=I2.hok.fresh (l_ _);have I3:Inv X pins σ (upd H2 s2.sz (.ext (ck (hashStr X.w) s2.sz [] [] []))) {s2 with heap:=s2.heap.push {cls:=.type "dict",dict:=none,data:=.dict #[]}}:=
  I2.laid (λb u e=>e_ _ e) (l_ _) (show bp X.prog X.w _ _ _ (.ext (ck (hashStr X.w) s2.sz [] [] []))from⟨⟨_,#[],0,[],p_ _ rfl,⟨rfl,rfl,rfl⟩,rfl,.nil,rfl,S5,by have:=I2.big;simpa using (VD this),by simp,rfl,rfl⟩,⟨_,p_ _ rfl⟩,fX _ _ _ _ _⟩)
 generalize zN:({s2 with heap:=s2.heap.push {cls:=.type "dict",dict:=none,data:=.dict #[]}}:V1)=s3 at I3 ⊢;have GR:∀b o,s2.heap.get? b=some o->s3.heap.get? b=some o:=λb o e=>by rw[<- zN];exact e_ _ e
 have GS:s3.sz=s2.sz+1:=by rw[<- zN];exact Ti _ _
 have hfl:∀b∈fp,b<s2.sz:=λb hb=>let ⟨o,e,_⟩:=T.obj _ _ uT b hb;r_ e;have GT:∀b∈fp,bQ X pins (upd H2 s2.sz (.ext (ck (hashStr X.w) s2.sz [] [] []))) b:=λb hb=>⟨by rw[au (w_ (hfl b hb))];exact(jR b hb).1,(jR b hb).2⟩;refine Ue hnc (by intro y hy;simp at hy) (λh1 wg hsb=>?_) bE;have GU:∀b o,s3.heap.get? b=some o->h1.get? b=some o:=λb o e=>hsb.extBut b o (w_ (r_ e)) (e_ _ e);have I4:=mW (tk:=s3.toks+([]:List (Str×V0)).length) I3 fo bE hnc GT (λb hb=>by rw[GS];exact SO (hfl b hb)) hN fj wg GU;generalize hXc:cS X scope cl Nc s3.sz s3 (upd H2 s2.sz (.ext (ck (hashStr X.w) s2.sz [] [] []))) fp (X.pn++pins)=Xc at I4;have bb:yi Xc s2.sz kx vx (⟨tg,iter,ifs,0⟩::rest) scope pos 0 tg ifs t c k:=by rw[<- hXc];exact hb _ _ _ _ _ _
 obtain⟨Bd,kJ,zL⟩:=bb.ex;have eP:Xc.prog=X.prog:=by rw[<- hXc];rfl
 have eW:Xc.w=X.w:=by rw[<- hXc];rfl
 have eK:Xc.K=X.K:=by rw[<- hXc];rfl
 have eA:Xc.A=X.A:=by rw[<- hXc];rfl
 have eE:Xc.env=compEnvC scope cl s3.sz X.env:=by rw[<- hXc];rfl
 have hx:∀e s,¬Xc.xe e s:=λe s z=>by rw[<- hXc]at z;exact z
 have zQ:Xc.calm=true:=by rw[<- hXc];exact bq
 have T':Turn Xc.prog Xc.w Xc.K tg J fp it tn:=by rw[eP,eW,eK];exact T
 have A4:Ac Xc (qM Xc.K Xc.w s2.sz) [] s2.sz H2 Z2 (upd H2 s2.sz (.ext (ck (hashStr X.w) s2.sz [] [] []))) (bM own.length caps env) (ko own.length caps σ) [] {s3 with heap:=h1,toks:=s3.toks+([]:List (Str×V0)).length}:=
  ⟨I4,by rw[eK];exact R2.cap _ _ (dj hf) (bU R2.zh (R2.zh.free hf)),gQ _ _ _,hf,R2.zh.free hf,([],[]),[],[],rfl,l_ _,by rw[eW];exact av,λi k b h=>by simp at h,rfl⟩
 have M0:∀b∈fp,bQ Xc [] (upd H2 s2.sz (.ext (ck (hashStr X.w) s2.sz [] [] []))) b:=λb hb=>by
  obtain⟨f1,f2,f3,f4,f5,f6⟩:=GT b hb;have mem:=eu fo (λp hp=>by cases hp);rw[<- hXc];refine⟨f1,?_,eg I3 f2 f3,.inl hb,λx c h=>f5 x c (mem (x,c) (Sl h)),λp hp=>f6 p (by simpa [cS]using hp)⟩;show b≠s3.sz;rw[GS];exact w_ (SO (hfl b hb))
 have GV:tn 0 ({s3 with heap:=h1,toks:=s3.toks+([]:List (Str×V0)).length}:V1).heap:=T.keep _ _ _ uT λb _ o e=>GU b o (GR b o e);have go:=iu Mh FZ hx zQ T' bb.g ht bb.ts kJ (zL it) A4 M0 GV (by rw[eK];exact wk) hu uS (by simpa using hl) λs' σ' H' Z' A' x' fr'=>by
  obtain⟨m0,bs0,vs,NU,_,hv,M6,rr⟩:=A'.ac;rw[eW]at hv;have base:=A'.I.base;obtain⟨mC,GW,_⟩:=A'.I.loc;have hok:=A'.I.hok;have hos:=A'.I.os;have free:=A'.I.free;rw[eE]at GW free;rw[eP,eW]at hok;rw[eK]at rr M6;have u1:Un (rS X.stack) fp H2 (upd H2 s2.sz (.ext (ck (hashStr X.w) s2.sz [] [] []))) s2.heap s3.heap:=Un.laid GR (l_ _) hf;have u2:Un (rS X.stack) fp (upd H2 s2.sz (.ext (ck (hashStr X.w) s2.sz [] [] []))) H' s3.heap s'.heap:=by rw[<- hXc]at base;exact base
  have Dd:s'.os=s2.os:=by rw[<- hXc]at hos;exact hos.trans (by rw[<- zN];rfl)
  have I':Inv X pins σ H' s':=I2.call' Dd (u1.trans u2) hok A'.I.bare λb hb=>⟨(jR b hb).2.2.2.1,(jR b hb).2.1,(jR b hb).2.2.2.2.1,(jR b hb).2.2.2.2.2⟩;exact MZ s2.sz s3.sz H' Z' s' m0 bs0 vs mC I' GW (I3.fpOk (l_ _) free) x' hf (by simpa using NU) hv A'.hz M6 rr
 rw[eP,eW,eA,eE]at go;exact lJ Mh rfl go (T.self _ 0 _ _ _ GV go)
theorem wK(hw:th=hashStr X.w)(ht:kI is t)(bq:X.calm=true)(hi:ID X tg iter fi)(fo:fE (λx=>X.env.cells.lookup x) scope.names []=some cl)(hN:Nc.map some=own.map some++caps.map (λj=>X.N[j]?))
  (hb:∀C s H ex pn a,yi (cS X scope cl Nc C s H ex pn) a kx vx (⟨tg,iter,ifs,0⟩::rest) scope pos 0 tg ifs t c k)
  (fj:g9 X scope caps=true:=by rfl) (bE:scope.kind=.function:=by rfl) (hnc:∀y∈scope.names,y.2≠.cell:=by decide +kernel) (JG:∀x∈scope.names,x.2=.local->scope.names.lookup x.1=some .local:=by decide +kernel)
  (hs:∀x,foldedSetIterable iter X.env x=pure x:=by intro _;rfl) :
  PD X .nm (.DictComp kx vx (⟨tg,iter,ifs,0⟩::rest) scope pos) (hZ th fi is t c k own.length caps):=by
 subst hw;intro pins s σ H Q I hT;obtain⟨env,B,Z,d,R,e,kk⟩:=hT;obtain⟨ds,xs,mm,e1,hu,uS,hl,NS,rfl⟩:=tM e;rw[arm_eval_DictComp];refine TF rfl hs (ej fo) bE JG ?_;refine bB (hi pins s σ H (λJ H1=>∃Z1,Ex Z H Z1 H1/\Walk X.K Z1 ds J) I ⟨env,B,Z,ds,R,e1,λJ Z1 H1 x1 wk=>⟨Z1,x1,wk⟩⟩) λx s1 q1=>bB q1 λKo s2 az=>?_;obtain⟨it,fp,tn,J,H2,hit,I2,T,uT,jR,Z2,x2,wk⟩:=az;subst hit;refine vQ ht bq fo bE hnc hN fj hb I2 (R.ext x2) T uT jR wk hu uS hl λa C H' Z' s' m1 bs vs m I' ns fpC x' hf hm1 hv hz hp rr=>?_;refine⟨m,ns,λh' hs'=>?_⟩;obtain⟨f1,f2,f3,f4,f5,f6⟩:=fpC;rw[NS]at hm1;cases hm1;exact⟨.ref a,H',I'.turned (λb o hb e=>hs'.extBut b o hb e) f1 f2.symm.symm f4 f5 f6,rfl,kk _ Z' H' (x2.trans x') ⟨a,hashStr X.w,mm.1,mm.2,rfl,rfl,x2.h.free hf,⟨bs,vs,hv,hp,rr⟩,hz⟩⟩
end
theorem fD:∀{ns:VX}{us:VP},aw (ns.map V.int) us->∀(i:Nat)(v:V0),us[i]?=some v->∃t,v=Value.int (ns.getD i 0) t
 | [],_,.nil,i,v,h=>by simp at h
 | n::ns,_,.cons r t,0,v,h=>by simp at h;subst h;exact r
 | n::ns,_,.cons r t,i+1,v,h=>by
  obtain⟨t',e⟩:=fD t i v (by simpa using h);exact⟨t',by simpa using e⟩
theorem preSum_eq(ns:VX):∀n,n<=ns.length->preSum (λi=>ns.getD i 0) n=(ns.take n).sum
 | 0,_=>by simp[preSum]
 | n+1,h=>by
  have hn:n<ns.length:=h;rw[preSum,preSum_eq ns n (by lia),List.take_succ,List.sum_append];simp[List.getD,hn]
section
variable {X:Cx}{l r:V9}{fa fb:Fe}{ga gb:Gr}{pos p:Pos}
theorem zt(hc:X.calm=true):dv X (.builtin "sum") (λxs H Q=>∃(a:V8)(ns:VX),xs=[.ref a]/\cW X.K H a (ns.map V.int)/\Q (.int ns.sum) H):=by
 intro pins s σ H xs us Q I rs h;obtain⟨a,ns,rfl,hq,q⟩:=h;obtain⟨u,rfl,rx⟩:=vals1 rs;cases rx;obtain⟨bu,rv,pl,hz⟩:=I.list hq;have fg:a<s.sz:=by obtain⟨o,ho,_⟩:=pl.isList;exact r_ ho
 have hl:=aw.length rv;rw[c_]at hl;refine call_sum_walkG (Tv pl.isList ⟨s.sz,_,_,_,_,_,λi=>ns.getD i 0,rfl,Walks.list (show X.A.in1.handled=none from I.ok.hd hc) s.sz a (w_ fg) bu.toArray,⟨⟨_,p_ _ rfl,rfl,rfl⟩,pl.isList.push _⟩,λb hb=>?_,λi v hv=>fD rv i v (by simpa using hv),λh' tk t' hk=>?_⟩)
 .simp only[o_,Td,Vx]at hb;rw[Ti];rcases hb with rfl | rfl
  .exact Ui _
  .exact SO fg
 .have e:preSum (λi=>ns.getD i 0) bu.toArray.size=ns.sum:=by
   rw[show bu.toArray.size=ns.length by simp[<- hl],preSum_eq ns _ (l_ _),UQ]
  rw[e];refine⟨.int ns.sum,H,I.kept λb o e=>hk b o (λhb=>?_) (e_ _ e),⟨_,rfl⟩,q⟩;have:b=s.sz:=by simpa using hb
  exact w_ (r_ e) this
def yz:D->Wg
 | .lst ds=>(o8 ds).bind λns=>some (.int ns.sum)
 | _=>none
theorem Mf{K:Fg}:gB K .cl yz (λxs H Q=>∃(a:V8)(ns:VX),xs=[.ref a]/\cW K H a (ns.map V.int)/\Q (.int ns.sum) H):=λ{Z H x dx d Q} s h e k=>by
 cases dx<;>try cases e
 obtain⟨ns,h1,h2⟩:=a_.mp e;cases h2;cases sE h1;obtain⟨a,vs,rfl,q,rr⟩:=h.lst s;cases ai.intsV rr;exact⟨a,ns,rfl,q,k _ Z H (Ex.refl s) rfl⟩
theorem yV:bootBuiltins "sum"=some (.builtin "sum"):=by decide +kernel
theorem LX(hm:X.mg "sum"=none)(bq:X.calm=true)(ha:PD X ga l fa)(hg:Gl X "sum":=by rfl)(he:starEach [l] X.env=[(false,eval l X.env)]:=by rfl):PD X .cl (.Call (.Name "sum" p) [l] [] pos) (bt yz fa):=
 oY (zt bq) Mf yV hm ha (by decide) (by decide) hg he
variable {o e:V9}{apos bA:Pos}
end
section
variable {X:Cx}{rg:Gr}
open Classical in
open Classical in
end
class Th where
 h:Str->Int
theorem Kc{α:Type}{p:List α->Prop}(h:∀a,p [a]):∀us:List α,us.length=1->p us
 | [a],_=>h a
theorem Kg{α:Type}{p:List α->Prop}(h:∀a b,p [a,b]):∀us:List α,us.length=2->p us
 | [a,b],_=>h a b
theorem Kj{α:Type}{p:List α->Prop}(h:∀a b c,p [a,b,c]):∀us:List α,us.length=3->p us
 | [a,b,c],_=>h a b c
theorem Kk{α:Type}{p:List α->Prop}(h:∀a b c d,p [a,b,c,d]):∀us:List α,us.length=4->p us
 | [a,b,c,d],_=>h a b c d
abbrev eJ(K:Fg)(x:Str)(st:V_)(f:V8):Prop:=∃(oc kV dc pm cd ct:V0)(od an:VR)(sl:VJ),PySem.W.nsIn K mainGlobals x=some (some (.ref f))/\K.lookup f=some ⟨oc,od,.func (PySem.W.fnOf x x (bO st) (aP st) (aq st) .none kV dc pm an cd ct),sl⟩/\PySem.W.codeIn K cd x=true/\PySem.W.keepIn K (.ref f)=true
section
variable {K:Fg}{h:V4}{mg:VL}{x:Str}{st:V_}{f:V8}
theorem eJ.fn(A:eJ K x st f)(X:K.In h)(G:h.Ns mainGlobals mg):∃fd,xR K x x st f fd/\PySem.W.keepIn K (.ref f)=true/\mg x=some (.ref f):=by
 obtain⟨_,_,_,_,_,_,_,_,_,a,l,c,k⟩:=A;exact⟨_,l' l c k,k,PySem.W.mg_of X G a⟩
theorem KD{oc kV dc pm cd ct:V0}{od an:VR}{sl:VJ}(a:PySem.W.nsIn K mainGlobals x=some (some (.ref f)))(l:K.lookup f=some ⟨oc,od,.func (PySem.W.fnOf x x (bO st) (aP st) (aq st) .none kV dc pm an cd ct),sl⟩)(c:PySem.W.codeIn K cd x=true)(k:PySem.W.keepIn K (.ref f)=true):eJ K x st f:=⟨_,_,_,_,_,_,_,_,_,a,l,c,k⟩
variable {P:V2}{w:V5}{base:V4}{d n:Nat}{g:Gr}{m:Wf->Wg}{fd:V6}{ps:VS}
theorem Ab(O:dM P w K mg base jk d f fd ps (Do K n g m))(hk:PySem.W.keepIn K (.ref f)=true)(hm:mg x=some (.ref f))(hb:Binds K fd ps [])(hn:ps.length=n:=by rfl):∀j,d<=j->MT P w K mg base j x n g m:=
 λ_ hj=>⟨f,fd,ps,hn,O.mono hj,hm,hk,hb⟩
end
end Mi
namespace Mi
open PySem
end Mi
namespace Mi
open PySem PySem.Spec PyProof.Rows L2
theorem Bs(ha:s.TypeIs a "list")(hb:s.TypeIs b "list")
  (hc:wpAny M A (call (.builtin "list.__iadd__") [a,b]) Q E s):wpAny M A (inplaceOp .Add a b) Q E s:=by
 unfold inplaceOp;refine L_ ?_;have hl:typeLookup (.type "list") (dunderI "add")=pure (some (.builtin "list.__iadd__")):=PySem.F.slot_list_iadd.lookup;have Ks:isSeqSlot (some (.builtin "list.__iadd__"))=true:=by decide +kernel
 have hfi:fillsInplaceSlot (.type "list") "add" (Operator.Add==.Add)=pure false:=by
  unfold fillsInplaceSlot;show(typeLookup (.type "list") (dunderI "add") >>= λfi=>pure (fi.isSome&&!isSeqSlot fi))=pure false;rw[hl];show(pure ((some (Value.builtin "list.__iadd__")).isSome&&!isSeqSlot (some (.builtin "list.__iadd__"))):Sem Bool)=pure false;rw[Ks];rfl
 refine b_ (wpAny_typeOf ha (b_ (UE hfi ?_)));show wpAny M A (if false=true then _ else _) Q E s;rw[j_ Sf];refine b_ (PyProof.Rows.binaryOp1_none ha hb noFill_list_add ?_);refine b_ (UE (PySem.seqSlot_of hl Ks) ?_);exact b_ (Vb hc)
section
variable {X:Cx}{rg:Gr}{pos px:Pos}{x:Str}{e:V9}
def ipL:TIp:=λx y H Q=>∃l b xs zs,x=.ref l/\y=.ref b/\H l=some (.lst xs)/\H b=some (.lst zs)/\xs.length+zs.length<=sizeLine/\Q (.ref l) (upd H l (.lst (xs++zs)))
theorem EL:QP X .Add ipL:=by
 intro pins s σ H x y v u Q I rx ry h;obtain⟨l,b,xs,zs,rfl,rfl,hH,hB,hz,q⟩:=h;cases(show v=Value.ref l from rx);cases(show u=Value.ref b from ry);obtain⟨z,bu,n,r,hl,e⟩:=I.lstM hH;obtain⟨z2,uH,n2,r2,hl2,e2⟩:=I.lstM hB;have hsz:bu.toArray.size+uH.toArray.size<=sizeLine:=by rw[t_,t_];omega
 have CV:¬(!bu.toArray.isEmpty&&Builtin.List.listTooLong (bu.toArray.size+uH.toArray.size))=true:=by
  rw[su hsz,Va];exact Sf
 refine Bs ⟨_,e,rfl⟩ ⟨_,e2,rfl⟩ (VE PySem.F.slot_list_iadd ⟨_,e,rfl⟩ PySem.F.entry_list_iadd (PySem.F.args_list_iadd_2 _ _)
  (AutoSeq1.list___iadd___list_list_0 l bu.toArray n b uH.toArray n2 CV (by rw[t_];omega) (by omega)) ⟨e,e2,?_⟩)
 refine⟨.ref l,_,I.lset hH e (by simp) (r.append r2) ?_,rfl,q⟩;rw[h_];omega
theorem set_same{σ:L2.St}{i:Nat}{v:V}(h:σ[i]?=some (some v)):σ.set i (some v)=σ:=by
 apply List.ext_getElem?;intro j
 by_cases z:i=j
 .subst z;rw[A_ (s_.mp h).1,h]
 .rw[n_ z]
theorem pJ(i:Nat){fe:Fe}(he:PD X .nw e fe)(hN:X.N.Nodup)(hi:X.N[i]?=some x:=by rfl)(hx:Loc X.env.scope x:=by first | exact Or.inl rfl | exact Or.inr rfl)(hf:X.fn x=true\/X.env.scope.names.lookup x=some .local:=by first | exact .inl rfl | exact .inr rfl | assumption) :
  SD X rg (.AugAssign (.Name x px) .Add e pos) (ja i fe):=by
 refine PS.imp (IJ hN hi hx he EL hf) λE σ H az=>?_;obtain⟨env,B,Z,o,R,e,k⟩:=az;unfold ja at e
 split at e
 .rename_i ds hi;obtain⟨d,e1,e2⟩:=a_.mp e;cases d<;>try cases e2
  rename_i es;obtain⟨hl,rfl⟩:=rh e2;obtain⟨y,e3,a,o,e4,e5,e6,vs,rfl,r⟩:=R.sl i _ hi;subst e4;refine⟨_,e3,env,B,Z,_,R,e1,λv Z1 H1 x1 g1=>?_⟩;obtain⟨b,us,es',rfl,e7,h1,h2,h3,r2⟩:=g1;cases e7;have R1:=R.ext x1;have r1:=ai.mono x1.z ds r;refine⟨a,b,vs,us,rfl,rfl,x1.h _ _ e5,h2,by rw[<- r.len,<- r2.len,Sr];omega,?_⟩;obtain⟨R2,x2⟩:=R1.wr hi e3 (dq.l (r1.app r2));rw[set_same e3];exact k σ Z1 _ ((x1.part R.bh).transB x2) R2
 .cases e
end
theorem E4(hh:A.handled=none)(hl:s.heap.IsList l (x::xs).toArray)(hz:xs.length+1<=sizeLine)
  (hQ:∀(h':V4)(tk:Nat),(∀b o,s.heap.get? b=some o->h'.get? b=some o)->Q [x,.ref h'.objs.size] {s with heap:=h'.push {cls:=.type "list",data:=.seq xs.toArray},toks:=tk}):wpAny (model P w) A (unpackItems (.ref l) 2 (some 1)) Q E s:=by
 have fg:l≠s.sz:=by obtain⟨o,ho,_⟩:=hl;exact w_ (r_ ho)
 have hl1:(s.heap.push {cls:=.type "list_iterator",data:=.fields #[.ref l,rawInt 0]}).IsList l (x::xs).toArray:=by obtain⟨o,ho,r⟩:=hl;exact⟨o,e_ _ ho,r⟩
 unfold unpackItems;refine b_ ?_;unfold notIterableAtAll;refine b_ (T6 hl.typeIs PySem.slot_list_iter.lookup (g_ ?_));simp only[J_,SA];refine b_ (L_ (Tv hl ?_));refine b_ (L_ (GB fg 1 0 _ _ ⟨_,p_ _ rfl,rfl,rfl⟩ hl1 (by simp) λh₁ JK hs₁=>?_));have Rq:h₁.IsList l (x::xs).toArray:=hl1.extBut hs₁.extBut fg;rw[Tt]at JK;have hit₁':=JK;obtain⟨oi,hoi,_⟩:=hit₁';have hl₁':=Rq;obtain⟨ol,Dt,_⟩:=hl₁';rw[show(((x::xs).toArray.toList.drop 0).take 1)=[x]from rfl,j_ (show ¬([x].length<1) by simp)];refine b_ (L_ (PySem.W.kun_collect (.inr (.inr (.inl rfl))) (Walks.list (A:=A.in1) hh s.sz l fg (x::xs).toArray) (λj u st=>st.1.typeIs) (by simp) ⟨JK,Rq⟩ (r_ hoi) (r_ Dt) (λh₂ tk hk=>?_) (by simpa using hz)));rw[show((x::xs).toArray.toList.drop 1)=xs from rfl];show wpAny _ _ (if xs.length<0 then _ else _) _ _ _;rw[j_ (by lia)];show wpAny _ _ (newList (xs.take (xs.length-0)) >>= λd=>pure ([x]++[d]++xs.drop (xs.length-0))) _ _ _;rw[Nat.sub_zero,UQ,Vw];have he:Heap.ExtBut s.sz s.heap h₂:=λb o hb e=>hk b o hb (hs₁.extBut b o hb (e_ _ e));exact b_ (SH (g_ (hQ h₂ tk λb o e=>he b o (w_ (r_ e)) e)) (by show xs.toArray.size<=sizeLine;rw[t_];lia))
section
variable {X:Cx}{rg:Gr}
def Lr(K:VZ)(t:TGs):TG:=λv σ H Q=>∃a x xs,v=.ref a/\cW K H a (x::xs)/\∀p,H p=none->t [x,.ref p] σ (upd H p (.lst xs)) Q
theorem Ej(hc:X.calm=true)(h:y7 X es t)(hn:(assignEach es X.env).length=2:=by rfl)(hst:(assignEach es X.env).findIdx? (·.1)=some 1:=by rfl):PG X (.Tuple es k pos) (Lr X.K t):=by
 intro pins s σ H v u Q I r hw;obtain⟨a,x,xs,e1,hq,hw⟩:=hw;subst e1;cases r;obtain⟨bu,rv,pl,hz⟩:=I.list hq;cases rv with
 | @cons _ u0 _ us r0 rr=>
 have hlen:=rr.length;rw[Vi];refine b_ (SI ?_);unfold unpack;rw[hst,hn];have hz2:us.length+1<=sizeLine:=by simp only[m_]at hz;lia
 refine b_ (L_ (E4 (I.ok.hd hc) pl.isList hz2 λh' tk hx=>?_));have I1:Inv X pins σ H {s with heap:=h',toks:=tk}:=I.kept hx;have I2:=I1.lnew (t':=tk) rr (by lia);exact h pins _ σ _ _ _ Q I2 (.cons r0 (.cons (show L2.RelV (.ref h'.objs.size) (Value.ref h'.objs.size)from rfl) .nil)) (hw _ I1.fresh)
theorem Bn(h1:PG X e t)(hs:(assignEach [.Starred e p] X.env).map (·.2)=[assign e X.env]:=by rfl):y7 X [.Starred e p] (Gz t gNil):=by
 intro pins s σ H vs us Q I r h;obtain⟨v,vr,e1,h⟩:=h;subst e1;cases r with
 | cons r rr=>
  rw[hs];refine Uz (bB (h1 pins s σ H _ _ _ I r h) λ_ s1 az=>?_);obtain⟨σ1,H1,I1,q1⟩:=az;obtain⟨rfl,q1⟩:=q1;cases rr;exact assignInOrder_nil ⟨σ1,H1,I1,q1⟩
def GG(i j:Nat)(f:Fe):Fs:=λenv=>(f env).bind λd=>match d with
 | .lst (d::ds)=>some (.nx ((env.set i (.F d)).set j (.F (.lst ds))))
 | _=>none
theorem G5(i j:Nat)(hc:X.calm=true)(he:PD X .cl e fe)(hN:X.N.Nodup)(hi:X.N[i]?=some x:=by rfl)(hj:X.N[j]?=some y:=by rfl)
  (hx:Loc X.env.scope x:=by first | exact Or.inl rfl | exact Or.inr rfl) (hy:Loc X.env.scope y:=by first | exact Or.inl rfl | exact Or.inr rfl)
  (hf:X.fn x=true\/X.env.scope.names.lookup x=some .local:=by first | exact .inl rfl | exact .inr rfl | assumption) (hf2:X.fn y=true\/X.env.scope.names.lookup y=some .local:=by first | exact .inl rfl | exact .inr rfl | assumption)
  (ha:(assignEach [.Name x p1,.Starred (.Name y p3) p4] X.env).map (·.2)=assign (.Name x p1) X.env::(assignEach [.Starred (.Name y p3) p4] X.env).map (·.2):=by rfl)
  (ha2:(assignEach [.Starred (.Name y p3) p4] X.env).map (·.2)=[assign (.Name y p3) X.env]:=by rfl)
  (hn:(assignEach [.Name x p1,.Starred (.Name y p3) p4] X.env).length=2:=by rfl) (hst:(assignEach [.Name x p1,.Starred (.Name y p3) p4] X.env).findIdx? (·.1)=some 1:=by rfl)
  (hs:swapsWithSole [.Tuple [.Name x p1,.Starred (.Name y p3) p4] k p2] e pos.line X.env=pure false:=by rfl) (hw:swappedStores [.Tuple [.Name x p1,.Starred (.Name y p3) p4] k p2] e X.env=pure none:=by rfl) (h1:(assignEach [.Tuple [.Name x p1,.Starred (.Name y p3) p4] k p2] X.env).map (·.2)=[assign (.Tuple [.Name x p1,.Starred (.Name y p3) p4] k p2) X.env]:=by rfl) :
  SD X rg (.Assign [.Tuple [.Name x p1,.Starred (.Name y p3) p4] k p2] e pos) (GG i j fe):=
 PS.imp (uU he (Ej hc (tJ (lD hN hi hx hf) (Bn (lD hN hj hy hf2) ha2) ha) hn hst) hs hw h1) λE σ H az=>by
 obtain⟨env,B,Z,o,R,e,k⟩:=az;obtain⟨d,e1,e⟩:=a_.mp e;cases d<;>try cases e
 rename_i ds;cases ds with
 | nil=>cases e
 | cons d ds=>
  cases e;refine⟨env,B,Z,_,R,e1,λv Z1 H1 x1 g1=>?_⟩;obtain⟨a,vs,rfl,hq,rr⟩:=g1;obtain⟨v0,vr,rfl,r0,r1⟩:=rr;refine⟨a,v0,vr,rfl,x1.zh.seq hq,λp hp=>?_⟩;have x2:Ex Z1 H1 (upd Z1 p (.lst vr)) (upd H1 p (.lst vr)):=by
   refine⟨dj hp,dj (x1.zh.free hp),λb ob hb=>?_,λb h1 h2=>?_,kX (λ_ _ _ h=>h) Kh⟩
   .by_cases z:b=p
    .subst z;rw[av]at hb ⊢;exact hb
    .rw[au z]at hb ⊢;exact x1.zh _ _ hb
   .rw[au (λz=>h1 (by rw[z];exact hp))];exact h2
  refine⟨v0,_,rfl,.ref p,_,rfl,rfl,?_⟩;have s1:aD Z1 (upd Z1 p (.lst vr)):=x2.z;have R2:=(((R.ext x1).ext x2).setF i (Rep.mono s1 d r0)).setF (d:=.lst ds) j ⟨p,vr,rfl,cW.of av,ai.mono s1 ds r1⟩;exact k _ _ _ ((x1.trans x2).part R.bh) R2
end
section
variable {X:Cx}{rg:Gr}{pins:VI}{s:V1}{σ:L2.St}{H:Hp}
theorem oG(I:Inv X pins σ H s)(dx:D)(hx:pl dx=true):∀{es:Wf}{ys:Wh}{us:VP},gK es=true->ai X.K H es ys->aw ys us->us.map (dk s.heap (toPy dx))=es.map λe=>dO e dx
 | [],_,_,_,h,r=>by cases(show _=[]from h);cases r;rfl
 | e::es,_,_,hp,h,r=>by
  unfold gK at hp;rw[C_]at hp;obtain⟨v,vr,z,h1,h2⟩:=h;subst z;cases r with
  | cons r1 r2=>
   obtain⟨as,q⟩:=c8 I e hp.1 h1 r1;have ih:=oG I dx hx hp.2 h2 r2;rw[B_,B_,ih,nq q (eX e h1),jN _ _ hp.1 hx]
def DF:D->D->Wg
 | .lst es,d=>if ec d<=60/\(pl d&&gK es)=true/\inD d es=true then some (.int (es.findIdx λe=>dO e d))else none
 | _,_=>none
def Iz(K:Fg):V->Wh->Hp->VK->Prop:=λx vs H Q=>∃dx es p ys y,x=.ref p/\vs=[y]/\Rep K H dx y/\cW K H p ys/\ai K H es ys/\(ec dx<=60/\(pl dx&&gK es)=true/\inD dx es=true)/\Q (.int (es.findIdx λe=>dO e dx)) H
theorem Al(hu:X.A.units+66<cLine):QQ X "list.index" (Iz X.K):=by
 intro pins s σ H x xs v us Q I rx rv h;obtain⟨dx,es,p,ys,y,rfl,rfl,h1,h2,rr,⟨hd,MX,Dp⟩,q⟩:=h;rw[C_]at MX;obtain⟨Dv,JC⟩:=MX;cases rx;obtain⟨u,rfl,ru⟩:=rv.one;have Kq:X.A.in1.units+64<cLine:=by show X.A.units+1+64<cLine;lia
 obtain⟨bu,r',pl,hz⟩:=I.list h2;have hm:=oG I dx Dv JC rr r';have iM:∀y,y∈bu.toArray->SeqAt.EqAt X.A.in1 s y u (dk s.heap (toPy dx) y):=λy hy=>jq I h1 ru Kq hd Dv JC rr r' y (by simpa using hy);have hj:es.findIdx (λe=>dO e dx)<es.length:=List.findIdx_lt_length_of_exists (by unfold inD at Dp;rw[Te]at Dp;exact Dp);have hl1:=rr.len;have hl2:=r'.length;obtain⟨⟨cls,dd,data,sl⟩,n,ho,c1,c2,c3⟩:=pl;simp only at c1 c2 c3;subst c1 c2 c3;have at_:∀m (h1:m<bu.length) (h2:m<es.length),dk s.heap (toPy dx) bu[m]=dO es[m] dx:=λm h1 h2=>by
  have e1:(bu.map (dk s.heap (toPy dx)))[m]'(by simpa using h1)=dk s.heap (toPy dx) bu[m]:=by simp
  have e2:(es.map λe=>dO e dx)[m]'(by simpa using h2)=dO es[m] dx:=by simp
  rw[<- e1,<- e2];simp only[hm]
 refine VE PySem.F.slot_list_index ⟨_,ho,rfl⟩ PySem.F.entry_list_index (PySem.F.args_list_index_2 _ _)
  (PySem.SeqAt.list_indexAt p bu.toArray n _ sl u (dk s.heap (toPy dx)) (es.findIdx λe=>dO e dx) (by rw[t_];lia) (by rw[Sr]at hz;lia) ?_ ?_) ⟨ho,iM,⟨.int _,H,I.kept (t':=s.toks+1) (λ_ _ e=>e),⟨_,rfl⟩,q⟩⟩
 .show dk s.heap (toPy dx) bu[es.findIdx λe=>dO e dx]=true;rw[at_ _ (by lia) hj];exact List.findIdx_getElem (p:=λe=>dO e dx)
 .intro m hms fg;show dk s.heap (toPy dx) bu[m]=false;rw[t_]at hms;rw[at_ m hms (by lia)];exact Vq.mpr (by simpa using List.not_of_lt_findIdx (p:=λe=>dO e dx) fg)
variable {o e:V9}{fa fb:Fe}{apos bA:Pos}{k:Nat}
theorem E6(hr:bo k X.A)(ha:PD X .cl o fa)(hb:PD X .cl e fb)(fM:attributeBase o "index" X.env (eval o X.env)=eval o X.env:=by rfl)
  (kG:((backTo bA (starEach [e] X.env)).all (λx=>!x.1)&&(backToKw bA (keywordEach [] X.env)).all (λx=>x.1.isSome)
   && decide ([e].length+([]:List Keyword).length+(if([]:List Keyword).isEmpty then 0 else 1)<30))=true:=by rfl)
  (fN:(apos.endLine==bA.line)=true:=by rfl) (hst:starEach [e] X.env=(false,eval e X.env)::starEach [] X.env:=by rfl) :
  PD X .cl (.Call (.Attribute o "index" apos) [e] [] bA) (ak DF fa fb):=
 PE.imp (pG SY PySem.F.slot_list_index PySem.F.type_list_index (Al (jv hr)) ha (aY hb cj hst) fM kG fN hst rfl) λσ H Q az=>by
 obtain⟨env,B,Z,d,R,e,kq⟩:=az;obtain⟨da,e1,e⟩:=a_.mp e;obtain⟨db,e2,e⟩:=a_.mp e;cases da<;>try cases e
 rename_i es _;obtain⟨hc,rfl⟩:=rh e;refine⟨env,B,Z,_,R,e1,λv Z1 H1 x1 g1=>?_⟩;obtain⟨a,vs,rfl,hq,rr⟩:=g1;refine⟨.inl ⟨rfl,vs,x1.zh.seq hq⟩,env,B,Z1,db,R.ext x1,e2,λv2 Z2 H2 x2 g2=>?_⟩;exact⟨db,es,a,vs,v2,rfl,rfl,Rep.mono x2.zh _ g2,x2.h.seq (x1.zh.seq hq),ai.mono x2.zh _ (ai.mono x2.z _ rr),hc,kq _ Z2 H2 (x1.trans x2) rfl⟩
end
end Mi
namespace Mi
open PySem PySem.Spec PyProof.Rows L2
inductive pP(A:Around)(s:Shared)(q:Bool):List Value->List Value->Prop
 | nil:q=false->pP A s q [] []
 | less {w:Value} {ws:List Value}:q=true->pP A s q [] (w::ws)
 | more {v:Value} {vs:List Value}:q=false->pP A s q (v::vs) []
 | same {v w:Value} {vs ws:List Value}:SeqAt.EqAt A s v w true->pP A s q vs ws->pP A s q (v::vs) (w::ws)
 | apart {v w:Value} {vs ws:List Value}:SeqAt.EqAt A s v w false->(∀(prog:Program)(wd:World)(E:Value->Shared->Prop)(Q:Value->Shared->Prop),Q (.bool q) s->wpAny (model prog wd) A (richCompare .Lt v w) Q E s)->pP A s q (v::vs) (w::ws)
section
open PySem.SeqAt
open PySem.AutoSeq1 (wpAny_loadPart')
open PySem.MeetsSeq PySem.MeetsSeq2 PySem.MeetsSeq3
end
section
variable {X:Cx}{pins:VI}{s:V1}{σ:L2.St}{H:Hp}
variable {l r:V9}{fa fb:Fe}{ga gb:Gr}{pos p:Pos}{k:Nat}
end
end Mi
namespace Mi
open PySem PySem.Spec PyProof.Rows L2
def RY:D->Option Bool
 | .lst ds=>some !ds.isEmpty
 | _=>none
def fT(f:Fe):Fb:=λenv=>(f env).bind RY
theorem A8(h:PD X .cl e f)(he:∀whole,isTrue e X.env whole=(do let v <- whole;standAt e.pos;holding [v] (truthy v)):=by intro _;rfl):PB X e (fT f):=
 PT.imp (Bw h he) λσ H Q az=>by
  obtain⟨env,B,Z,b,R,e,k⟩:=az;obtain⟨d,h1,h2⟩:=a_.mp e;cases d<;>cases h2;rename_i ds;refine⟨env,B,Z,_,R,h1,λv Z' H' x g=>?_⟩;obtain⟨a,vs,rfl,hq,rr⟩:=g;have hl:=rr.len;have:(!ds.isEmpty)=!vs.isEmpty:=by cases ds<;>cases vs<;>first | rfl | (simp at hl)
  exact⟨_,.inl ⟨vs,x.zh.seq hq,rfl⟩,by rw[<- this];exact k Z' H' x⟩
theorem pY{X:Cx}{rg:Gr}{st:V_}:SD X rg st (λ_=>none):=λpins s σ H E I ⟨_,_,_,_,_,e,_⟩=>by cases e
theorem zV{P:V2}{w:V5}{K:Fg}{mg:VL}{base:V4}{k n:Nat}{f:V8}{fd:V6}{ps:VS}{g:Gr}:dM P w K mg base jk k f fd ps (Do K n g λ_=>none):=
 ⟨λvs H Q E ⟨_,_,_,_,_,_,e,_⟩=>(by cases e),λA outer s H args us vs Q E _ _ _ _ ⟨_,_,_,_,_,_,e,_⟩=>(by cases e)⟩
structure Wd where
 P:Program
 w:World
 K:Fg
 mg:Str->Option Value
 base:Heap
abbrev Wd.Q(W:Wd)(d:Nat)(x:Str)(n:Nat)(g:Gr)(m:Wf->Wg):Prop:=∀j,d<=j->MT W.P W.w W.K W.mg W.base j x n g m
abbrev Wd.At(W:Wd)(x:Str)(st:V_):Prop:=∃f fd,xR W.K x x st f fd/\PySem.W.keepIn W.K (.ref f)=true/\W.mg x=some (.ref f)
theorem eJ.at{K:Fg}{h:V4}{mg:VL}{x:Str}{st:V_}{f:V8}(X:K.In h)(G:h.Ns mainGlobals mg)(A:eJ K x st f):∃f fd,xR K x x st f fd/\PySem.W.keepIn K (.ref f)=true/\mg x=some (.ref f):=
 let ⟨fd,a⟩:=A.fn X G
 ⟨f,fd,a⟩
abbrev Bi(x:Str)(st:V_)(ps:VS):Prop:=∀(kV doc pm:V0)(an:VR)(bP ct:V0)(us:VP),us.length=ps.length->bindArgs (PySem.W.fnOf x x (bO st) (aP st) (aq st) .none kV doc pm an bP ct) ⟨us,[]⟩=pure (ps.zip us)
section
variable {W:Wd}{x:Str}{st:V_}{k:Nat}{g:Gr}{fb:Fs}
theorem gJ(N:VS)(n:Nat)(h:W.At x st)
  (hb:∀(bP:V0)(A:V3)(outer:List Env)(s:V1)(H:Hp)(E:XK)(f:V8),bo k (A.deeper (envOfC x (aq st) s.sz f bP))->N.Nodup->tm (gE jk W.P W.w W.K W.mg W.base N x (aq st) f bP A outer s H E).nox g (aP st) fb)
  (S:bY N (N.take n) (aq st):=by exact⟨rfl,rfl,rfl,by decide +kernel,rfl,by decide +kernel,by decide +kernel⟩)
  (hB:Bi x st (N.take n):=by intro _ _ _ _ _ _;first | exact Kc λ_=>rfl | exact Kg λ_ _=>rfl | exact Kj λ_ _ _=>rfl | exact Kk λ_ _ _ _=>rfl | exact ar5 λ_ _ _ _ _=>rfl):W.Q (k+1) x (N.take n).length g (bF fb N.length):=by
 obtain⟨f,fd,F,hk,hm⟩:=h;exact Ab (Q4 F S (λbP A outer s H E hr=>hb bP A outer s H E f hr S.nd) (λ_ _ _ e=>e)) hk hm (F.binds hB)
theorem R9(N:VS)(n:Nat)(F:xR W.K x x st f fd)
  (hb:∀(bP:V0)(A:V3)(outer:List Env)(s:V1)(H:Hp)(E:XK)(f:V8),bo k (A.deeper (envOfC x (aq st) s.sz f bP))->N.Nodup->tm (gE jk W.P W.w W.K W.mg W.base N x (aq st) f bP A outer s H E).nox g (aP st) fb)
  (S:bY N (N.take n) (aq st):=by exact⟨rfl,rfl,rfl,by decide +kernel,rfl,by decide +kernel,by decide +kernel⟩):dM W.P W.w W.K W.mg W.base jk (k+1) f fd (N.take n) (Do W.K (N.take n).length g (bF fb N.length)):=
 Q4 F S (λbP A outer s H E hr=>hb bP A outer s H E f hr S.nd) λ_ _ _ e=>e
theorem R6{m:Nat->Wf->Wg}{fb:Nat->Fs}(N:VS)(n i:Nat)(h:W.At x st)(h0:m 0=λ_=>none)(h1:∀i,m (i+1)=bF (fb i) N.length)
  (hb:∀i,MT W.P W.w W.K W.mg W.base (k+i) x (N.take n).length g (m i)->∀(bP:V0)(A:V3)(outer:List Env)(s:V1)(H:Hp)(E:XK)(f:V8),bo (k+i) (A.deeper (envOfC x (aq st) s.sz f bP))->N.Nodup->tm (gE jk W.P W.w W.K W.mg W.base N x (aq st) f bP A outer s H E).nox g (aP st) (fb i))
  (S:bY N (N.take n) (aq st):=by exact⟨rfl,rfl,rfl,by decide +kernel,rfl,by decide +kernel,by decide +kernel⟩)
  (hB:Bi x st (N.take n):=by intro _ _ _ _ _ _;first | exact Kc λ_=>rfl | exact Kg λ_ _=>rfl | exact Kj λ_ _ _=>rfl | exact Kk λ_ _ _ _=>rfl | exact ar5 λ_ _ _ _ _=>rfl):W.Q (k+i) x (N.take n).length g (m i):=by
 induction i with
 | zero=>
  obtain⟨f,fd,F,hk,hm⟩:=h;exact λj _=>⟨f,fd,_,rfl,by rw[h0];exact zV,hm,hk,F.binds hB⟩
 | succ i c=>
  rw[h1];exact gJ N n h (hb i (c (k+i) (l_ _))) S hB
section
variable {X:Cx}{k d n:Nat}{l:V9}{es:VU}{fs:Fes}{m:Wf->Wg}{p pos:Pos}
theorem aM(C:∀j,d<=j->MT X.prog X.w X.K X.mg X.base j x n g m)(hr:bo k X.A)(hl:PL X (l::es) fs)(hd:d<=k:=by first | decide | omega)(hn:(l::es).length=n:=by rfl)(hg:Gl X x:=by rfl)(nC:(x==("__debug__":Str))=false:=by decide)
  (he:starEach (l::es) X.env=(false,eval l X.env)::starEach es X.env:=by rfl) (fL:(backTo pos (starEach es X.env)).any (·.1)=false:=by rfl):PD X g (.Call (.Name x p) (l::es) [] pos) (λenv=>(fs env).bind m):=Bp (C k hd) hr hl hn hg nC he fL
end
end
def runN(f:Fs)(n:Nat)(ds:Wf):Wg:=(f (cb n ds)).bind λo=>match o with | .nx _=>some .non | _=>none
theorem Sb{W:Wd}{x:Str}{st:V_}{k:Nat}{fb:Fs}(N:VS)(n:Nat)(h:W.At x st)
  (hb:∀(bP:V0)(A:V3)(outer:List Env)(s:V1)(H:Hp)(E:XK)(f:V8),bo k (A.deeper (envOfC x (aq st) s.sz f bP))->N.Nodup->tm (gE jk W.P W.w W.K W.mg W.base N x (aq st) f bP A outer s H E).nox .cl (aP st) fb)
  (S:bY N (N.take n) (aq st):=by exact⟨rfl,rfl,rfl,by decide +kernel,rfl,by decide +kernel,by decide +kernel⟩)
  (hB:Bi x st (N.take n):=by intro _ _ _ _ _ _;first | exact Kc λ_=>rfl | exact Kg λ_ _=>rfl | exact Kj λ_ _ _=>rfl | exact Kk λ_ _ _ _=>rfl | exact ar5 λ_ _ _ _ _=>rfl):W.Q (k+1) x (N.take n).length .cl (runN fb N.length):=by
 obtain⟨f,fd,F,hk,hm⟩:=h;refine Ab (F.ok S (λvs H Q E ⟨Z,ds,d,hl,_,r,_⟩=>by rw[<- r.len];exact hl) λbP A outer s H vs Q E hr ⟨Z,ds,d,hl,s1,r,e,kk⟩=>?_) hk hm (F.binds hB);refine⟨_,hb bP A outer s H E f hr S.nd,?_⟩;obtain⟨o,e1,e2⟩:=a_.mp e;refine⟨_,H,Z,o,Rl.start s1 r,e1,?_⟩;cases o with
 | nx _=>cases e2;exact λσ' Z' H' x R=>kk .non Z' H' x rfl
 | rt _=>cases e2
 | bk _=>cases e2
 | ct _=>cases e2
section
variable {M:Model}{A:V3}{E:VH}{s:V1}{scope:V7}{cx:Str}{cl:VM}
end
section
variable {X:Cx}{pins:VI}{σ:L2.St}{H:Hp}{s:V1}{scope:V7}{cx:Str}{cl:VM}{Nc own:VS}{caps:VW}{fp:VT}
end
section
variable {X:Cx}{elt:V9}{rest:VO}{scope:V7}{pos:Pos}{tg iter:V9}{ifs:VU}{t:Ft}{c:Fb}{k:Wc}{fi:Fi}{is caps:VW}{cx:Str}{cl:VM}{Nc own:VS}
end
end Mi
namespace Lm
open PySem PySem.Spec PyProof.Rows L2
theorem zx{pos:Pos}{a b:Int}{c v:V0}(l:VP)(h:TriplesOk l):codeAmong pos (l++[rawInt a,rawInt b,c])=some v->codeAmong pos l=some v\/v=c:=by
 fun_induction TriplesOk l with
 | case1=>
  intro z;simp only[SV,codeAmong,rawInt]at z
  split at z
  .cases z;exact .inr rfl
  .cases z
 | case2 a' t b' u x rest ih=>
  intro z;simp only[Sw,codeAmong]at z ⊢
  split at z
  .rename_i hc;rw[i_ hc];exact .inl z
  .rename_i hc;rw[j_ hc];exact ih h z
 | case3 l h1 h2=>exact h.elim
def vd(f:V8)(mk:V0->V6)(h:V4):Prop:=∃ctv,h.get? f=some {cls:=.type "function",data:=.func (mk ctv)}
theorem mJ(f:V8)(mk:V0->V6):∀h1 h2:V4,vd f mk h1->(∀o,h1.get? f=some o->h2.get? f=some o)->vd f mk h2:=λ_ _ ⟨c,e⟩ k=>⟨c,k _ e⟩
section
variable {X:Cx}{pins:VI}{σ:L2.St}{H:Hp}{s:V1}{h':V4}{P c:V8}{q:Str}{ps:Array V0}{a b:Int}{mk:V0->V6}{ctv:V0}{t':Tok}
theorem lam(I:L2.Inv X pins σ H s)(hP:H P=some (.tab q))(hps:s.heap.get? P=some {cls:=.none,data:=.fields ps})(ht:TriplesOk ps.toList)
  (hx:Heap.ExtBut P s.heap h') (h1:s.heap.objs.size<=c) (h2:c<h'.objs.size) (hc:h'.CodeRec (.ref c) q) (hn:h'.get? P=some {cls:=.none,data:=.fields (ps++#[rawInt a,rawInt b,.ref c])}) :
  L2.Inv X pins σ (upd (upd H c (.cod q)) h'.objs.size (.ext (vd h'.objs.size mk))) {s with heap:=h'.push {cls:=.type "function",data:=.func (mk ctv)},toks:=t'}:=by
 have fc:H c=none:=I.hok.fresh h1;have ff:H h'.objs.size=none:=I.hok.fresh (M_ h1 (TX h2));have ncf:c≠h'.objs.size:=w_ h2;have up:∀{b:V8}{o:HO},H b=some o->upd (upd H c (.cod q)) h'.objs.size (.ext (vd h'.objs.size mk)) b=some o:=λ{b o} e=>by
  rw[au (bf e ff),au (bf e fc)];exact e
 have kp:∀b o,b≠P->s.heap.get? b=some o->(h'.push {cls:=.type "function",data:=.func (mk ctv)}).get? b=some o:=λb o hb e=>e_ _ (hx b o hb e);have nP:∀{b:V8},H b=none->b≠P:=λ{b} n z=>by rw[z,hP]at n;cases n
 refine I.step (g':=s.gens) (d':=s.drawn) (t':=t') (ch:=[]) (λ_ z=>nomatch z) (λb o _ _ _ e n=>kp b o (nP n) e) (λb o _ _ _ e n=>⟨o.slots,kp b o (nP n) e⟩) (λb o _ e n=>?_) (λb o _ e=>?_)
  (λb xs e=>up e) (λb o u e=>up e) (λb ps e=>up e) (λm hm=>?_) (λb u e=>?_) I.bare
 .have lt:=r_ e;rw[au (w_ (N_ lt (M_ h1 (TX h2)))),au (w_ (N_ lt h1))];exact n
 .by_cases hb:b=P
  .subst hb;exact⟨_,e_ _ hn⟩
  .exact⟨o,kp b o hb e⟩
 .obtain⟨o,es,ep,ho,r⟩:=hm;exact⟨o,es,ep,kp _ o (nP I.free) ho,r⟩
 .by_cases hf:b=h'.objs.size
  .subst hf;rw[av]at e;cases e;have z:(h'.push {cls:=.type "function",data:=.func (mk ctv)}).get? h'.objs.size=some {cls:=.type "function",data:=.func (mk ctv)}:=p_ _ rfl;exact⟨⟨ctv,z⟩,⟨_,z⟩,mJ _ _⟩
  .rw[au hf]at e
   by_cases hbc:b=c
   .subst hbc;rw[av]at e;cases e;obtain⟨c2,oc,vs,t,e2,FO,hd,hv⟩:=hc;cases e2;exact⟨oc,vs,t,e_ _ FO,hd,hv⟩
   .rw[au hbc]at e
    by_cases hbP:b=P
    .subst hbP;rw[hP]at e;cases e;obtain⟨ps0,e0,_,JL⟩:=(show bp X.prog X.w H s.heap b (.tab q)from I.hok b _ hP);rw[hps]at e0;cases e0;refine⟨_,e_ _ hn,?_,λpos v z=>?_⟩
     .rw[Array.toList_append];exact TriplesOk_snoc _ _ _ _ ht
     .rw[Array.toList_append]at z;rcases zx _ ht z with z | z
      .obtain⟨c0,z1,z2⟩:=JL pos v z;exact⟨c0,z1,up z2⟩
      .exact⟨c,z,by rw[au ncf,av]⟩
    .refine(I.hok b u e).stay (λd v hd r=>kp d v ?_ r) (λd r=>up r) (λd xs r=>up r) λd xs r=>up r;rcases hd with z | z
     .rw[z];exact hbP
     .exact λw=>by rw[w,hP]at z;cases z
theorem IW(I:L2.Inv X pins σ H s)(hk:∀b o,s.heap.get? b=some o->h'.get? b=some o)(hs:s.heap.objs.size<=h'.objs.size) :
  L2.Inv X pins σ (upd H h'.objs.size (.ext (vd h'.objs.size mk))) {s with heap:=h'.push {cls:=.type "function",data:=.func (mk ctv)},toks:=t'}:=by
 have z:(h'.push {cls:=.type "function",data:=.func (mk ctv)}).get? h'.objs.size=some {cls:=.type "function",data:=.func (mk ctv)}:=p_ _ rfl;exact I.laid (t':=t') (λb u e=>e_ _ (hk b u e)) hs ⟨⟨ctv,z⟩,⟨_,z⟩,mJ _ _⟩
end
section
variable {X:Cx}{pins:VI}{σ:L2.St}{H:Hp}{s:V1}{P c0:V8}{params:Arguments}{body:V9}{scope:V7}{pos:Pos}{zO:VM}
abbrev vW(X:Cx):Str:=X.env.qual++"<lambda>"
abbrev yj(X:Cx)(params:Arguments)(body:V9)(scope:V7)(zO:VM)(c:V8)(ctv:V0):V6:=
 PySem.W.kla_fn "<lambda>" (vW X) params body scope zO ((X.mg "__name__").getD .none) (.ref c) ctv
theorem Hl{Q:VH}{E:VH}(I:L2.Inv X pins σ H s)(hP:H P=some (.tab (vW X)))(xS:X.env.code=.ref c0)(C:PySem.W.CodeHd X.base c0 P)
  (hB:∃bm o,X.mg "__builtins__"=some (.ref bm)/\bm≠builtinsNs/\bm≠mainGlobals/\X.base.get? bm=some o/\o.cls=.type "module"/\o.dict=some builtinsNs/\o.data=.plain)
  (fo:closureFor scope X.env=pure zO) (JM:defaultsOf params X.env=([],[]))
  (k:∀f c H' s',L2.Inv X pins σ H' s'->aD H H'->H f=none->H' c=some (.cod (vW X))->H' f=some (.ext (vd f (yj X params body scope zO c)))->Q (.ref f) s') :
  wpAny (model X.prog X.w) X.A (eval (.Lambda params body scope pos) X.env) Q E s:=by
 have kb:∀b o,X.base.get? b=some o->s.heap.get? b=some o:=λb o e=>(I.bs b o e).1;obtain⟨ps,e1,ht,JL⟩:=(show bp X.prog X.w H s.heap P (.tab (vW X))from I.hok P _ hP);have hg:s.heap.Ns mainGlobals X.mg:=by
  obtain⟨o,es,ep,e,r⟩:=I.ok.mod.glob;exact⟨o,es,ep,kb _ _ e,r⟩
 have nP:∀b o,X.base.get? b=some o->b≠P:=λb o e z=>by
  have:=(I.bs b o e).2;rw[z,hP]at this;cases this
 have hgP:mainGlobals≠P:=by
  obtain⟨o,es,ep,e,r⟩:=I.ok.mod.glob;exact nP _ _ e
 have hb:s.heap.BuiltinsAt X.mg P:=by
  obtain⟨bm,o,b1,b2,b3,b4,b5⟩:=hB;exact⟨bm,o,b1,b2,b3,nP _ _ b4,kb _ _ b4,b5⟩
 refine PySem.W.kla_eval JM ?_;cases hn:codeAmong pos ps.toList with
 | none=>
  refine PySem.W.kla_makeFunction fo I.ok.glob hg xS (C.keeps kb) e1 ht hn hgP hb λc' ctv h' tk hx M7 fg hrec htb=>?_;have I':=lam (mk:=yj X params body scope zO c') (ctv:=ctv) (t':=tk) I hP e1 ht hx M7 fg hrec htb;have fc:H c'=none:=I.hok.fresh M7;have ff:H h'.objs.size=none:=I.hok.fresh (M_ M7 (TX fg));exact k _ c' _ _ I' (λb o e=>by rw[au (bf e ff),au (bf e fc)];exact e) ff (by rw[au (w_ fg),av]) av
 | some cv=>
  obtain⟨c',rfl,hc'⟩:=JL pos cv hn;refine PySem.W.kla_makeFunctionHit fo I.ok.glob hg xS (C.keeps kb) e1 ht hn hb λctv h' tk hk hsz=>?_;have I':=IW (mk:=yj X params body scope zO c') (ctv:=ctv) (t':=tk) I hk hsz;have ff:H h'.objs.size=none:=I.hok.fresh hsz;exact k _ c' _ _ I' (λb o e=>by rw[au (bf e ff)];exact e) ff (by rw[au (bf hc' ff)];exact hc') av
end
end Lm
namespace Lm
open PySem PySem.Spec PyProof.Rows L2 Mi
abbrev q8(X:Cx)(scope:V7)(cl:VM)(f c L:V8):Env:=newEnv scope L mainGlobals cl (vW X++".<locals>.") (some f) (.ref c) none builtinsNs
def tj(X:Cx)(A:V3)(scope:V7)(cl:VM)(Nc:VS)(f c:V8)(s:V1)(H:Hp)(pn:VI):Cx:=
 {X with A:=A.deeper (q8 X scope cl f c s.sz),N:=Nc,s₀:=s,H₀:=H,env:=q8 X scope cl f c s.sz,outer:=X.stack,stack:=q8 X scope cl f c s.sz::X.stack,ex:=[],fn:=λ_=>false,calm:=true,pn:=pn,xe:=λ_ _=>False}
section
variable {X:Cx}{A:V3}{pins:VI}{σ:L2.St}{H:Hp}{s:V1}{scope:V7}{cl:VM}{Nc:VS}{caps:VW}{f c:V8}{x0:Str}{v:V}{u:V0}
theorem Ef{h1:V4}{tk:Nat}(I:Inv X pins σ H s)(hd:A.handled=none)(hfr:A.frames=some X.stack)(fo:fE (λx=>X.env.cells.lookup x) scope.names []=some cl)(bE:scope.kind=.function)(hnc:∀y∈scope.names,y.2≠.cell)
  (hN:Nc.map some=some x0::caps.map (λj=>X.N[j]?)) (fj:g9 X scope caps=true) (h0:scope.names.lookup x0=some .local) (r:RelV v u)
  (wg:h1.Ns s.sz (λx=>[(x0,u)].reverse.lookup x)) (hk:∀b o,s.heap.get? b=some o->h1.get? b=some o) :
  Inv (tj X A scope cl Nc f c s H (X.pn++pins)) [] ((ko 1 caps σ).set 0 (some v)) H {s with heap:=h1,toks:=tk}:=by
 have mem:=eu fo (λp hp=>by cases hp);have low:∀x c,cl.lookup x=some c->X.env.cells.lookup x=some c:=λx c h=>mem (x,c) (Sl h);have Dq:∀b:V8,b∉(tj X A scope cl Nc f c s H (X.pn++pins)).ex:=λb z=>absurd (show b∈([]:VT)from z) (by simp);refine⟨⟨I.ok.mod,bE,rfl,rfl,l_ _,λx y c h1 h2=>I.ok.inj x y c (low x c h1) (low y c h2),λx hx=>?_,λx c hf _=>absurd (show false=true from hf) Sf,λ_=>hd,Around.frames_deeper hfr,.inr ⟨rfl,rfl⟩,λb z=>absurd z (Dq b),
   I.bs,M_ I.ok.bsz I.sz,λb _ _=>Dq b,λb z=>absurd z (Dq b),I.stack,I.stkFree,I.tb⟩,
  rfl,I.bare,Un.kept hk,⟨_,wg,λi x v' e1 e2 e3=>?_⟩,λx c h=>?_,I.hok.fresh (l_ _),λx c h=>I.freeC x c (low x c h),λp hp=>?_,I.hok.kept hk,?_⟩
 .have nF:scope.names.lookup x=some .cell\/scope.names.lookup x=some .free:=hx;rcases nF with h | h
  .exact absurd rfl (hnc _ (Sl h))
  .obtain⟨c,hc⟩:=ft fo x (.inl (Sl h));exact cJ hc
 .cases i with
  | zero=>
   have uJ:some (some v)=some (some v'):=e2;cases uJ;have h1:(Nc.map some)[0]?=some (some x):=by rw[u_,show Nc[0]?=some x from e1];rfl
   rw[hN]at h1;have h2:some (some x0)=some (some x):=h1;cases h2;exact⟨u,r,.inl ⟨h0,by simp⟩⟩
  | succ i=>
   have uJ:(caps.map λj=>(σ[j]?).getD none)[i]?=some (some v'):=e2;rw[u_]at uJ;cases hj:caps[i]? with
   | none=>rw[hj]at uJ;cases uJ
   | some j=>
    rw[hj]at uJ;have uJ:(σ[j]?).getD none=some v':=Option.some.inj uJ;have hσ:σ[j]?=some (some v'):=by
     cases q:σ[j]? with
     | none=>rw[q]at uJ;cases uJ
     | some o=>rw[q]at uJ;exact S0 some uJ
    have hx:X.N[j]?=some x:=by
     have h1:(Nc.map some)[i+1]?=some (some x):=by rw[u_,show Nc[i+1]?=some x from e1];rfl
     rw[hN]at h1;have h2:(caps.map (λj=>X.N[j]?))[i]?=some (some x):=h1;rw[u_,hj]at h2;exact Option.some.inj h2
    have hc1:=P_.mp fj j (F_ hj);rw[hx]at hc1;simp only[C_,Ux,TZ]at hc1;obtain⟨hc1,r6⟩:=hc1;obtain⟨m0,hn0,JD⟩:=I.loc;obtain⟨u,ru,lk⟩:=JD j x v' hx hσ (.inr hc1);refine⟨u,ru,.inr ?_⟩;have Pq:∃c,X.env.cells.lookup x=some c/\s.heap.IsCell c (some u):=by
     rcases lk with ⟨h1,_⟩ | ⟨_,c,h1,h2⟩
     .have JA:X.env.scope.names.lookup x=some .local:=h1;rcases hc1 with z | z<;>· rw[JA]at z;cases z
     .exact⟨c,h1,h2⟩
    obtain⟨c,Pr,Pu⟩:=Pq;obtain⟨c',hc'⟩:=ft fo x (.inl (Sl r6));obtain⟨Pv,CZ⟩:=cJ hc';have e4:=low x Pv CZ;rw[Pr]at e4;cases e4;obtain⟨o,ho,hd⟩:=Pu;exact⟨.inr r6,c,CZ,o,hk c o ho,hd⟩
 .obtain⟨v,o,ho,hd⟩:=I.cell x c (low x c h);exact⟨v,o,hk c o ho,hd⟩
 .have Pw:p∈X.pn++pins:=by simpa [tj]using hp
  obtain⟨h1,h2,h3,h4,h5⟩:=I.pin p Pw;exact⟨hk _ _ h1,h2,w_ (r_ h1),eg I h3 h4,h5⟩
 .have:=S0 List.length hN;simp only[c_,m_]at this;simp only[ko,List.length_set,h_,Sy,c_];rw[Nat.add_comm];exact this.symm
def LG(X:Cx)(pins:VI)(σ:L2.St)(Z H:Hp)(n:Int)(y:V0)(s':V1):Prop:=∃t H' Z',y=.int n t/\Inv X pins σ H' s'/\Ex Z H Z' H'
theorem Bx{params:Arguments}{body:V9}{fl:Fe}{B Z:Hp}{env:En}{d:D}{n:Int}(I:Inv X pins σ H s)(R:Rl X.K B Z H env σ)(hfr:A.frames=some X.stack)(hr:bo k A)
  (hf:H f=some (.ext (vd f (yj X params body scope cl c)))) (hc:H c=some (.cod (vW X)))
  (hb:∀ctv u,bindArgs (yj X params body scope cl c ctv) ⟨[u],[]⟩=pure [(x0,u)]) (PR:scope.isCoroutine=false) (JN:scope.isGenerator=false)
  (fo:fE (λx=>X.env.cells.lookup x) scope.names []=some cl) (bE:scope.kind=.function) (hnc:∀y∈scope.names,y.2≠.cell)
  (hN:Nc.map some=some x0::caps.map (λj=>X.N[j]?)) (fj:g9 X scope caps=true) (h0:scope.names.lookup x0=some .local)
  (hbody:∀s H pn,PD (tj X A scope cl Nc f c s H pn) .cl body fl) (r:RelV v u) (hv:Rep X.K Z d v) (hfl:fl ((bM 1 caps env).set 0 (.F d))=some (.int n)) :
  wpAny (model X.prog X.w) A (call (.ref f) [u]) (LG X pins σ Z H n) (λ_ _=>False) s:=by
 obtain⟨⟨ctv,hF⟩,_⟩:=(show bp X.prog X.w H s.heap f (.ext _)from I.hok f _ hf);obtain⟨oc,vs,t,h1,h2,h3⟩:=(show bp X.prog X.w H s.heap c (.cod _)from I.hok c _ hc);refine wpAny_call (PySem.W.kla_callFunE hr.depth hF rfl PR JN rfl ⟨c,oc,vs,t,rfl,h1,h2,h3⟩ ?_);refine UE (hb ctv u) ?_;refine Ue hnc (by intro y hy;rw[k_.mp hy];exact h0) (λh1 wg hsb=>?_) bE;have k:∀b o,s.heap.get? b=some o->h1.get? b=some o:=λb o e=>hsb.extBut b o (w_ (r_ e)) (e_ _ e);refine⟨I.nolimit.keeps k,PySem.W.kla_codeExpr ?_⟩;have J:=Ef (f:=f) (c:=c) (tk:=s.toks+[(x0,u)].length) I hr.hd hfr fo bE hnc hN fj h0 r wg k;have R':Rl X.K H Z H ((bM 1 caps env).set 0 (.F d)) ((ko 1 caps σ).set 0 (some v)):=(R.cap 1 caps (aD.refl _) R.zh).setF 0 hv;refine Sx (hbody s H (X.pn++pins) [] _ _ H (λw H'=>∃Z',Ex Z H Z' H'/\Rep X.K Z' (.int n) w) J ⟨_,H,Z,_,R',hfl,λw Z' H' x g=>⟨Z',x,g⟩⟩) (λy s' hy=>?_) λe s' he=>he.elim;obtain⟨w,H',J',Rt,Z',x,g⟩:=hy;cases(show w=.int n from g);obtain⟨t,rfl⟩:=Rt;exact⟨t,H',Z',rfl,I.call' (ch:=[]) J'.os J'.base J'.hok J'.bare (λb z=>absurd z (by simp)),x⟩
end
section
variable {X:Cx}{A:V3}{pins:VI}{σ:L2.St}{Z H:Hp}{l q I S:V8}{xs:Wh}{kf:Nat->Int}{R:Result->V1->Prop}
abbrev Gx(X:Cx)(A:V3)(σ:L2.St)(Z H:Hp)(q:V8)(xs:Wh)(kf:Nat->Int):Prop:=∀(i:Nat)(v:V)(u:V0),xs[i]?=some v->RelV v u->∀(pins:VI)(s:V1)(Z1 H1:Hp),Inv X pins σ H1 s->Ex Z H Z1 H1->
 wpAny (model X.prog X.w) A (call (.ref q) [u]) (LG X pins σ Z1 H1 (kf i)) (λ_ _=>False) s
theorem KR{H1:Hp}{s:V1}{oS oI:Obj}(J:Inv X pins σ H1 s)(fS:bQ X pins H1 S)(fI:bQ X pins H1 I)(gS:s.heap.get? S=some oS)(gI:s.heap.get? I=some oI)(dS:∀v,oS.data≠.cell v)(dI:∀v,oI.data≠.cell v):Inv X (pins++[(S,oS),(I,oI)]) σ H1 s:=
 J.pins_of λp hp=>(O_.mp hp).elim (λz=>J.pin p (y_ _ z)) λz=>by
  rcases o_.mp z with rfl | z
  .exact⟨gS,fS.1,fS.2.1,fS.2.2.1,dS⟩
  .rw[k_.mp z];exact⟨gI,fI.1,fI.2.1,fI.2.2.1,dI⟩
theorem bQ.at{H1 H2:Hp}{b:V8}(f:bQ X pins H1 b)(h:H2 b=none):bQ X pins H2 b:=⟨h,f.2⟩
end
end Lm
namespace Mi
open PySem PySem.Spec PyProof.Rows L2
section
variable {X:Cx}{a:V8}{elt:V9}{fe:Fe}
end
def OR:Wf->Option VX
 | []=>some []
 | .int n::r=>(OR r).bind λns=>some (n::ns)
 | _=>none
def noO(env:En):Bool:=env.all λs=>match s with | .O _=>false | _=>true
structure GrAt(a:Addr)(bs:List Addr)(g:List (List Int))(B Z H:Hp):Prop where
 ha:H a=some (.lst (bs.map V.ref))
 ba:B a=none
 za:Z a=none
 nd:bs.Nodup
 len:bs.length=g.length
 el:∀(i:Nat)(b:Addr),bs[i]?=some b->b≠a/\B b=none/\Z b=none/\∃ns:List Int,g[i]?=some ns/\H b=some (.lst (ns.map V.int))
section
variable {X:Cx}{comp iter1 iter2:V9}{fc:Fe}{fi1 fi2:Fi}{q:D->We}{tb sh mn rw cn:Str}{k1 k2:Nat}{pt p1 p2 p3 p4 p5 p6 p7 p8 p9 pa pb pc pd pe pf pg ph spos:Pos}
end
end Mi
namespace Mi
open PySem
end Mi
namespace Mi
open PySem PySem.Spec PyProof.Rows L2
section
variable {X:Cx}{l r:V9}{fa fb:Fe}{ga gb:Gr}{pos p:Pos}
end
section
variable {prog:V2}{w:V5}{A:V3}{E:VH}{s:V1}{it d:V8}{i ep:Nat}{es:Array DictEntry}{od:Obj}
theorem z7(hit:s.heap.IsKeyIter it d i es.size ep)(zT:s.heap.get? d=some od)(M8:od.data=.dict es ep)(hlt':i<es.size)
  (hQ:∀h',h'.IsKeyIter it d (i+1) es.size ep->Heap.SameBut it s.heap h'->Q (some es[i].key) {s with heap:=h'}):wpAny (model prog w) A (pyNext (.ref it)) Q E s:=by
 obtain⟨o,ho,hc,hd⟩:=id hit;unfold pyNext;refine b_ (Vu (SZ (name:="__next__") hit.typeIs SX
  (SL SX hit.typeIs F.entry_dict_keyiterator_next ?_ (F.args_dict_keyiterator_next_1 _))))
 refine b_ (g_ (b_ (b_ ?_)))
 first | refine b_ (S6 hit.typeIs (g_ ?_)) | refine b_ (TJ hit.typeIs (g_ ?_))
 refine b_ (wpAny_fieldsOf ho hd ?_);have JO:Builtin.Dict_items.ownsTuple "dict_keyiterator"=false:=by decide
 simp only[JO,J_,SA];show wpAny _ _ (if(Value.ref d==Value.none)=true then _ else _) _ _ s;rw[j_ (show ¬((Value.ref d==Value.none)=true)from Sf)];refine b_ (g_ (b_ (Vr zT M8 ?_)));rw[j_ (by simp)];refine b_ (g_ (b_ (wpAny_dictEpoch zT M8 ?_)));rw[j_ (by simp)];refine g_ ?_;simp only[show ¬((i:Int)<0)from by lia,SA,S7,To hlt'];refine b_ ?_
 first | refine b_ (S6 hit.typeIs (g_ ?_)) | refine b_ (TJ hit.typeIs (g_ ?_))
 refine b_ (wpAny_isOneOf_keyiter hit.typeIs ?_);show wpAny _ _ (setField (.ref it) 1 (rawInt ((i:Int)+1)) >>= _) _ _ s;refine b_ (Vf ho hd (by simp) ?_);have hit':(s.heap.update it (Obj.mapFields (·.setIfInBounds 1 (rawInt ((i:Int)+1))))).IsKeyIter it d (i+1) es.size ep:=
  ⟨_,UM _ ho (Obj.isFreed_of_fields (UA hd _)),(Obj.cls_mapFields ..).trans hc,by rw[UA hd];simp[rawInt]⟩
 refine b_ (L_ ?_);refine b_ (wpAny_isOneOf_keyiter (s:={s with heap:=s.heap.update it (Obj.mapFields (·.setIfInBounds 1 (rawInt ((i:Int)+1))))}) hit'.typeIs ?_);show wpAny _ _ (pure es[i].key) _ _ _;exact g_ (g_ ⟨_,rfl,g_ (hQ _ hit' (SE ..))⟩)
theorem Ff(hh:A.handled=none)(hit:s.heap.IsKeyIter it d i es.size ep)(zT:s.heap.get? d=some od)(M8:od.data=.dict es ep)(M7:es.size<=i)
  (hQ:∀h',Heap.ExtBut it s.heap h'->Q none {s with heap:=h'}):wpAny (model prog w) A (pyNext (.ref it)) Q E s:=by
 obtain⟨o,ho,hc,hd⟩:=id hit;unfold pyNext;refine b_ (Vu (SZ (name:="__next__") hit.typeIs SX
  (SL SX hit.typeIs F.entry_dict_keyiterator_next ?_ (F.args_dict_keyiterator_next_1 _))))
 refine b_ (g_ (b_ (b_ ?_)))
 first | refine b_ (S6 hit.typeIs (g_ ?_)) | refine b_ (TJ hit.typeIs (g_ ?_))
 refine b_ (wpAny_fieldsOf ho hd ?_);have JO:Builtin.Dict_items.ownsTuple "dict_keyiterator"=false:=by decide
 simp only[JO,J_,SA];show wpAny _ _ (if(Value.ref d==Value.none)=true then _ else _) _ _ s;rw[j_ (show ¬((Value.ref d==Value.none)=true)from Sf)];refine b_ (g_ (b_ (Vr zT M8 ?_)));rw[j_ (by simp)];refine b_ (g_ (b_ (wpAny_dictEpoch zT M8 ?_)));rw[j_ (by simp)];refine g_ ?_;simp only[show ¬((i:Int)<0)from by lia,SA,S7,Array.getElem?_eq_none M7];refine b_ ?_
 first | refine b_ (S6 hit.typeIs (g_ ?_)) | refine b_ (TJ hit.typeIs (g_ ?_))
 show wpAny _ _ (setField (.ref it) 0 .none >>= _) _ _ s;refine b_ (Vf ho hd (by simp) ?_);show wpAny _ _ (newExc (.type "StopIteration") [] >>= _) _ _ _;refine b_ ?_;simp only[newExc,newTuple];refine b_ (SH ?_ (by size_fits));refine b_ (m:=firstArgMember _ _) (UE (a:=Value.none) (by first | rfl | (simp only[firstArgMember];rfl)) ?_);refine SH ?_ (by size_fits);simp only[raiseNew];refine b_ (wpAny_handled ?_);rw[show A.in1.handled=none from hh];refine b_ (g_ (wpAny_throw ?_));refine b_ (wpAny_isInstance (T:="StopIteration") (b:=true) ⟨_,p_ _ rfl,rfl⟩ isSubtype_stop ?_);exact g_ (hQ _ (((SE ..).extBut.push _).push _))
theorem Ce(hs:(d==sysModules)=false)(ho:s.heap.get? d=some od)(hc:od.ExactDict)(M9:od.data=.dict es ep)
  (hQ:Q (.ref s.heap.objs.size) {s with heap:=s.heap.push {cls:=.type "dict_keyiterator",data:=.fields #[.ref d,.int 0 0,.int es.size 0,.int ep 0]}}):wpAny (model prog w) A (pyIter (.ref d)) Q E s:=by
 have hT:s.TypeIs (.ref d) "dict":=⟨od,ho,hc.1⟩;refine wpAny_pyIter_slot hT F.slot_dict_iter (SL F.slot_dict_iter hT F.entry_dict_iter ?_ (F.args_dict_iter_1 _));unfold Builtin.«dict.__iter__»;refine b_ ?_;unfold Builtin.Dict.dictSlotNone;refine b_ (wpAny_notOrdered_dict hT ?_);show wpAny _ _ (pure (Value.ref d)) _ _ s;refine g_ ?_;show wpAny _ _ (Builtin.Dict.showsAll d >>= _) _ _ s;unfold Builtin.Dict.showsAll;rw[j_ (by rw[hs];exact Sf)];refine b_ (g_ (b_ (Vr ho M9 (b_ (wpAny_dictEpoch ho M9 ?_)))));exact b_ (SH (g_ ⟨_,rfl,"dict_keyiterator",_,⟨_,p_ _ rfl,rfl⟩,SX.lookup,hQ⟩))
end
def RJ(d:V8)(es:Array DictEntry)(ep:Nat)(h:V4):Prop:=∃o,h.get? d=some o/\o.ExactDict/\o.data=.dict es ep
section
variable {X:Cx}{l r e:V9}{fa fb:Fe}{ga gb:Gr}{pos p:Pos}{k:Nat}{th:Str->Int}
end
end Mi
namespace Mi
open PySem PySem.Spec PyProof.Rows L2 Lm
def ic(g:D->Wg):Wf->Option VX
 | []=>some []
 | d::ds=>(g d).bind λx=>match x with
  | .int n=>(ic g ds).bind λns=>some (n::ns)
  | _=>none
theorem mr{g:D->Wg}:∀{ds:Wf}{ns:VX},ic g ds=some ns->ns.length=ds.length/\∀(i:Nat) d,ds[i]?=some d->g d=some (.int (ns.getD i 0))
 | [],ns,h=>by cases h;exact⟨rfl,λi d e=>by simp at e⟩
 | d::ds,ns,h=>by
  unfold ic at h;obtain⟨x,h1,h2⟩:=a_.mp h;cases x<;>try cases h2
  obtain⟨r,h3,h4⟩:=a_.mp h2;cases h4;obtain⟨e1,e2⟩:=mr h3;refine⟨by simp[e1],λi d' e=>?_⟩;cases i with
  | zero=>cases e;exact h1
  | succ i=>exact e2 i d' e
structure Lam(W:Wd)(x:Str)(c P:Addr):Prop where
 t:tq W.K P=some (x++".<locals>."++"<lambda>")
 c:PySem.W.codeHdIn W.K c P=true
theorem BC{K:Fg}:yc K "best_in"=PySem.W.tabIn K "best_in":=j_ (by decide)
theorem AZ{K:Fg}:yc K "best_shown"=PySem.W.tabIn K "best_shown":=j_ (by decide)
theorem Cc{K:Fg}:yc K "Answerer.shoot"=vS K "Answerer" "shoot":=i_ rfl
theorem RU{K:Fg}{c P:V8}(h0:PySem.W.tabIn K "best_in"=none)(h1:PySem.W.tabIn K "best_shown"=none)(h:vS K "Answerer" "shoot"=some (c,P)):tq K P=some (("Answerer.shoot":Str)++".<locals>."++"<lambda>"):=by
 unfold tq HS;rw[U7,BC,show PySem.W.tabIn K "best_in"=none from h0,U7,AZ,show PySem.W.tabIn K "best_shown"=none from h1,U7,Cc,h];simp only[Option.bind_none,z_,TK]
section
variable {W:Wd}{x:Str}{st:V_}{k:Nat}{g:Gr}{fb:Fs}{c:V8}
end
end Mi
namespace L2
open PySem PySem.Spec PyProof.Rows
theorem z9{l:PySem.W.OpenLaw}{n k:Nat}{q:V2}{loose:VS}{XP:VL->V4->Prop}{YP:V5->V4->Prop}{d:DefRec}{K:Params->VZ}{CX:V5->CXT}{sp:V5->Sp}{x:Str}
  (hn:l.most=some n) (Pk:n<=sizeLine) (MO:d.params.defaults=[]) (hr:bo k callerA)
  (hY:∀(w:V5)(h:V4),YP w h->(K w.params).In h)
  (hL:∀(w:V5)(h:V4),YP w h->∀P qq,tq (K w.params) P=some qq->(∃c,PySem.W.CodeHd h c P)/\h.get? P=some (PySem.W.tabObj #[])/\(K w.params).lookup P=none)
  (F:∀(w:V5)(mg:VL)(fa:V8)(h:V4),(K w.params).In h->h.Ns mainGlobals mg->mg d.name=some (.ref fa)->
   ∃fd:V6,(∀(s:V1)(u:V0),BindsTo s fd ⟨[u],[]⟩ [(x,u)])/\
    ∀base:V4,(K w.params).In base->base.Ns mainGlobals mg->dM l.prog w (K w.params) mg base (CX w) k fa fd [x] (sp w))
  (hsp:∀(w:V5)(H:Hp)(a:V8)(ns:VX),ns.length<=n->Jk H->cW (K w.params) H a (ns.map V.int)->sp w [.ref a] H (λv _=>v=.bl true) λ_ _ _=>False)
  (hCX:∀(w:V5)(H:Hp)(s:V1)(e:V0)(s':V1),CX w [] H s (λ_ _ _=>False) e s'->False) :
  PySem.W.WalkO q loose XP YP l.row.toRowW d [] (λf vs=>PySem.call f vs):=by
 refine Att.tU hn MO λw s₀ s₁ mg mb fa o pm cd doc a vs ns G Y ho hd eM hmg Jx hints hlen hg=>?_;have KX:=hY w _ Y;obtain⟨fd,hb,hF⟩:=F w mg fa _ KX G.T.g hmg;have hbm:=G.T.bmain;refine AR KX G.T.g G.T.b G.T.builtins G.T.nolimit hg (by obtain⟨bm,ob,b1,b2,b3,b4,b5,b6⟩:=hbm;exact⟨bm,ob,b1,b2,b3,b4,b5,b6⟩) (λP qq e=>?_) Jx hints (M_ hlen Pk) hr hF hb (λH hO hS=>hsp w H a ns hlen hO hS) λH e s'=>hCX w H s₁ e s';exact hL w _ Y P qq e
theorem HX{K:VZ}{h:V4}{c P:V8}(X:K.In h)(hc:PySem.W.codeHdIn K c P=true)(hn:PySem.W.noTabs K=true)(ho:h.get? P=some (PySem.W.tabObj #[])):(∃c,PySem.W.CodeHd h c P)/\h.get? P=some (PySem.W.tabObj #[])/\K.lookup P=none:=by
 refine⟨⟨c,PySem.W.codeHd_of_K X hc⟩,ho,?_⟩;cases hk:K.lookup P with
 | none=>rfl
 | some o=>
  have e5:=X _ _ hk;rw[ho]at e5;cases e5;have h3:=P_.mp hn _ (PySem.W.mem_of_lookupK hk);exact absurd (show false=true from h3) Sf
def w9(K:VZ)(h:V4)(t:Option (V8×V8)):Prop:=t=none\/∃c P,t=some (c,P)/\PySem.W.codeHdIn K c P=true/\h.get? P=some (PySem.W.tabObj #[])
theorem KW{K:VZ}{h:V4}(X:K.In h)(hn:PySem.W.noTabs K=true\/∀x∈HS,yc K x=none)(a:w9 K h (PySem.W.tabIn K "best_in"))(b:w9 K h (PySem.W.tabIn K "best_shown"))(d:w9 K h (vS K "Answerer" "shoot")) :
  ∀P qq,tq K P=some qq->(∃c,PySem.W.CodeHd h c P)/\h.get? P=some (PySem.W.tabObj #[])/\K.lookup P=none:=λP qq e=>by
 obtain⟨x,hx,e2⟩:=List.exists_of_findSome?_eq_some e;obtain⟨⟨c,P'⟩,e3,e4⟩:=a_.mp e2;have hP:P'=P:=by
  by_cases hP:P'=P
  .exact hP
  .simp[hP]at e4
 subst hP;have Pi:PySem.W.noTabs K=true:=hn.elim id λz=>by rw[z x hx]at e3;cases e3
 have go:w9 K h (yc K x):=by
  rcases o_.mp hx with z | hx
  .rw[z,Mi.BC];exact a
  rcases o_.mp hx with z | hx
  .rw[z,Mi.AZ];exact b
  .rw[k_.mp hx,Mi.Cc];exact d
 rcases go with z | ⟨c2,P2,z,z1,z2⟩
 .rw[z]at e3;cases e3
 .rw[z]at e3;cases e3;exact HX X z1 Pi z2
end L2
namespace Mi
open PySem
theorem qx{K:Fg}{x:Str}(a:PySem.W.nsIn K mainGlobals x=some none):PySem.W.tabIn K x=none:=by
 unfold PySem.W.tabIn;rw[a]
end Mi
namespace Mi
open PySem PySem.Spec PyProof.Rows L2
section
variable {prog:V2}{w:V5}{K:Type}[DecidableEq K]{knd:HeapKind prog w K}{A:V3}{E:VH}{s:V1}{a b:V8}{xa xb:List (K×V8×V0)}
end
section
variable {X:Cx}{l r:V9}{fa fb:Fe}{ga gb:Gr}{pos p:Pos}{k:Nat}{th:Str->Int}
end
end Mi
namespace Mi
open PySem PySem.Spec PyProof.Rows L2
open PySem.W (KasT kas_rev kas_asc kas_desc kas_tail3 kas_descPart kas_count kas_place kas_bin kas_sort)
def ND{α:Type}(lt:Nat->Nat->Bool):KasT α->α
 | .ret a=>a
 | .ask i j k=>ND lt (k (lt i j))
section
variable {key:Nat->Int}{n:Nat}
def ka(key:Nat->Int)(p:Array Nat)(i:Nat):Int:=key (p.getD i 0)
def kIn(key:Nat->Int)(p:Array Nat):Prop:=∀i j,i<j->j<p.size->ka key p i≠ka key p j
end
end Mi
namespace Mi
open PySem PySem.Spec PyProof.Rows L2
open PySem.W (KasT kas_sort kas_ask kat_run kat_snds kas_rev kas_asc kas_desc kas_tail3 kas_descPart kas_count kas_place kas_bin)
def rZ{α:Type}(n:Nat)(P:α->Prop):KasT α->Prop
 | .ret a=>P a
 | .ask i j k=>(i<n/\j<n)/\∀b,rZ n P (k b)
section
variable {n:Nat}{p:Array Nat}
theorem fq{α β:Type}{f:α->KasT β}{P:α->Prop}{R:β->Prop}(h:∀a,P a->rZ n R (f a)):∀{t:KasT α},rZ n P t->rZ n R (t.bind f)
 | .ret a,g=>h a g
 | .ask _ _ k,⟨g,q⟩=>⟨g,λb=>fq h (q b)⟩
def gd(n:Nat)(p:Array Nat):Prop:=(0<n/\p.size=n)/\∀x∈p.toList,x<n
theorem gd.at(h:gd n p)(i:Nat):p.getD i 0<n:=by
 by_cases hi:i<p.size
 .rw[show p.getD i 0=p[i] by simp[Array.getD,hi]];exact h.2 _ (by simp)
 .rw[show p.getD i 0=0 by simp[Array.getD,hi]];exact h.1.1
theorem gd.perm{q:Array Nat}(h:gd n p)(e:q.Perm p):gd n q:=⟨⟨h.1.1,e.size_eq.trans h.1.2⟩,λx hx=>h.2 x ((Array.perm_iff_toList_perm.mp e).mem_iff.mp hx)⟩
theorem gd.rev(h:gd n p)(i j:Nat):gd n (kas_rev p i j):=h.perm (mirror_perm _ _ _ _)
theorem u7(h:gd n p):∀(f m:Nat),rZ n (λ_=>True) (kas_asc p f m)
 | 0,_=>trivial
 | f+1,m=>⟨⟨h.at _,h.at _⟩,λb=>by
  cases b
  .exact u7 h f (m+1)
  .trivial⟩
theorem lP:∀(f:Nat)(p:Array Nat)(m q:Nat),gd n p->rZ n (λr=>gd n r.1) (kas_desc f p m q)
 | 0,_,_,_,h=>h
 | f+1,p,m,q,h=>⟨⟨h.at _,h.at _⟩,λb=>by
  cases b
  .refine⟨⟨h.at _,h.at _⟩,λb=>?_⟩;cases b
   .exact lP f p (m+1) (q+1) h
   .exact h
  .show rZ n _ (if q>0 then _ else _)
   split
   .exact lP f _ _ _ (h.rev _ _)
   .exact lP f _ _ _ h⟩
theorem wJ(h:gd n p)(m k:Nat):rZ n (λr=>gd n r.2) (kas_tail3 m k p):=fq (n:=n) (P:=λ_=>True) (R:=λr=>gd n r.2) (f:=λx=>KasT.ret (x,kas_rev p 0 m)) (λ_ _=>h.rev 0 m) (u7 (h.rev 0 m) _ _)
theorem xn(h:gd n p)(m k:Nat):rZ n (λr=>gd n r.2) (kas_descPart m k p):=fq (λa ha=>by
 show rZ n _ (if a.2.2>0 then _ else _)
 split
 .exact wJ (ha.rev _ _) _ _
 .exact wJ ha _ _) (lP _ _ _ _ h)
theorem B6(h:gd n p)(k:Nat):rZ n (λr=>gd n r.2) (kas_count k p):=fq (λa _=>by
 split
 .exact h
 .split
  .refine⟨⟨h.at _,h.at _⟩,λb=>?_⟩;cases b
   .exact xn (h.rev _ _) _ _
   .exact h
  .exact xn h _ _) (u7 h _ _)
theorem mQ(h:gd n p)(k:Nat):∀(f l r:Nat),rZ n (λ_=>True) (kas_place p k f l r)
 | 0,_,_=>trivial
 | f+1,l,r=>by
  unfold kas_place
  split
  .trivial
  .refine⟨⟨h.at _,h.at _⟩,λb=>?_⟩;cases b
   .exact mQ h k f _ _
   .exact mQ h k f _ _
theorem Cp:∀(f:Nat)(p:Array Nat)(k:Nat),gd n p->rZ n (gd n) (kas_bin f p k)
 | 0,_,_,h=>h
 | f+1,p,k,h=>fq (λ_ _=>Cp f _ _ (h.perm (bubble_perm _ _ _))) (mQ h k _ _ _)
theorem qz(h:0<n):rZ n (gd n) (kas_sort n):=fq (λa ha=>by
 split
 .exact Cp _ _ _ ha
 .exact ha) (B6 ⟨⟨h,by simp⟩,λx hx=>by simpa using hx⟩ n)
theorem rZ.out{α:Type}{P:α->Prop}{lt:Nat->Nat->Bool}:∀{t:KasT α},rZ n P t->P (ND lt t)
 | .ret _,h=>h
 | .ask i j k,h=>rZ.out (t:=k (lt i j)) (h.2 (lt i j))
end
theorem c9.len{h:V4}:∀{vs:VP}{kss:Wa},c9 h vs kss->vs.length=kss.length
 | [],[],_=>rfl
 | [],_::_,t=>t.elim
 | _::_,[],t=>t.elim
 | _::_,_::_,t=>by rw[m_,m_,c9.len t.2]
def O3(kss:Wa)(i j:Nat):Bool:=(fF (kss.getD i []) (kss.getD j [])).getD false
def g0(kss:Wa):VW:=if kss.length<2 then List.range kss.length else(ND (O3 kss) (kas_sort kss.length)).toList
def A9(kss:Wa):Bool:=kss.all xK&&kss.all λx=>kss.all λy=>(fF x y).isSome
theorem xx{kss:Wa}:∀i∈g0 kss,i<kss.length:=by
 intro i hi;unfold g0 at hi
 split at hi
 .simpa using hi
 .exact(qz (by lia)).out.2 i hi
theorem Bl(kss:Wa):(g0 kss).length=kss.length:=by
 unfold g0
 split
 .simp
 .rw[SC];exact(qz (by lia)).out.1.2
section
variable {prog:V2}{w:V5}{A:V3}{E:VH}{s:V1}
theorem AQ{α:Type}{n:Nat}{cmp:Nat->Nat->(Bool->V1->Prop)->V1->Prop}{lt:Nat->Nat->Bool}{s:V1}(hc:∀i j (C:Bool->V1->Prop),i<n->j<n->C (lt i j) s->cmp i j C s){P:α->Prop}{Q:α->V1->Prop}:∀{t:KasT α},rZ n P t->Q (ND lt t) s->t.kasWp cmp Q s
 | .ret _,_,h=>h
 | .ask i j k,⟨g,q⟩,h=>hc i j _ g.1 g.2 (AQ hc (q (lt i j)) h)
theorem sL{a:V8}{vs:VP}{kss:Wa}{n:Nat}{P:PySem.Fin->V1->Prop}(ho:s.heap.get? a=some (seqObj "list" vs.toArray n))
  (ht:c9 s.heap vs kss) (hx:A9 kss=true) (N8:vs.length<64)
  (h:P (.done (.ret .none)) {s with heap:=sortedHeap s.heap a vs ((g0 kss).map λi=>vs.getD i .none).toArray}) :
  wpAny (model prog w) A (Builtin.«list.sort» ⟨[.ref a],[]⟩) P E s:=by
 rw[list_sort_plain];have ha:a<s.sz:=r_ ho;have hz:vs.length<=sizeLine:=by have:=Sr;lia
 refine b_ (listItems_at ho rfl ?_);refine b_ (listUpdate_at ho rfl ?_ (by simpa using hz) (by simp));obtain⟨e1,Ru⟩:∃e1,(s.heap.update a (Obj.mapSeq λ_=>#[])).get? a=some (seqObj "list" #[] e1):=⟨_,U1 ho (λ_=>#[])⟩;refine b_ (seqEpoch_at Ru rfl ?_);refine b_ (wpAny_newTuple ?_);refine b_ (Vt ?_);refine L_ ?_;have N9:(((s.heap.update a (Obj.mapSeq λ_=>#[])).push (seqObj "tuple" vs.toArray 0)).push (seqObj "list" #[] 0)).get? a=some (seqObj "list" #[] e1):=by
  rw[Heap.get?_push_ne _ _ _ (by rw[size_push',Heap.size_update];exact w_ (SO ha)),Heap.get?_push_ne _ _ _ (by rw[Heap.size_update];exact w_ ha)];exact Ru
 show wpAny (model prog w) A _ P E {s with heap:=((s.heap.update a (Obj.mapSeq λ_=>#[])).push (seqObj "tuple" vs.toArray 0)).push (seqObj "list" #[] 0)};have Rv:c9 (((s.heap.update a (Obj.mapSeq λ_=>#[])).push (seqObj "tuple" vs.toArray 0)).push (seqObj "list" #[] 0)) vs kss:=ht.keeps λb o hb hc=>by
  refine e_ _ (e_ _ ?_);rw[Heap.get?_update_ne _ _ _ _ (λz=>?_)]
  .exact hb
  .subst z;rw[ho]at hb;cases hb;injection (show Value.type "list"=Value.type "tuple" from hc)with e;exact absurd e (by decide)
 dsimp only;have hsz:vs.toArray.size=vs.length:=by simp
 have hl:=ht.len;unfold A9 at hx;rw[C_]at hx
 by_cases h2:vs.toArray.size<2
 .have Ju:(vs.toArray.zip vs.toArray).map (·.2)=((g0 kss).map λi=>vs.getD i .none).toArray:=by
   unfold g0;rw[i_ (by lia),<- hl];apply Array.ext
   .simp
   .intro i h1 h2;simp at h1 h2;simp[h1]
  rw[i_ h2,i_ h2];refine b_ (g_ ?_);rw[StateT.run_pure];refine b_ (g_ ?_);dsimp only;refine b_ (seqEpoch_at N9 rfl ?_);refine b_ (listUpdate_at N9 rfl ?_ (hsz2:=by rw[Array.size_map];rw[Array.size_zip,hsz,U9];lia));simp only[bne_self_eq_false,J_,SA];refine g_ ?_;show P (.done (.ret .none)) {s with heap:=(((s.heap.update a (Obj.mapSeq λ_=>#[])).push (seqObj "tuple" vs.toArray 0)).push (seqObj "list" #[] 0)).update a (Obj.mapSeq λ_=>(vs.toArray.zip vs.toArray).map (·.2))};rw[Ju];exact h
 .rw[j_ h2,j_ h2];obtain⟨fs,f1,f2,f3⟩:=Rv.firsts hx.1;refine b_ (PySem.W.kat_kind (T:=.type "int") f1 (by lia) (λv hv=>?_) (by simp) ?_)
  .obtain⟨m,t,rfl⟩:=f3 v hv;exact PySem.W.Looks.now
  rw[show(Value.type "int" != Value.type "tuple")=true by decide];have M':∀i,i<vs.length->∃b o xs k ks,vs.getD i Value.none=.ref b/\(((s.heap.update a (Obj.mapSeq λ_=>#[])).push (seqObj "tuple" vs.toArray 0)).push (seqObj "list" #[] 0)).get? b=some o/\o.cls=.type "tuple"/\o.data=.seq xs k/\kss[i]?=some ks/\cV xs.toList ks:=λi hi=>Rv.at (i:=i) (v:=vs.getD i .none) (by rw[Sq,v_ hi];rfl);refine b_ (Sx (kat_run (ks:=vs) (vs:=vs) (κ:=tuples' true) (G:=λp s'=>s'={s with heap:=((s.heap.update a (Obj.mapSeq λ_=>#[])).push (seqObj "tuple" vs.toArray 0)).push (seqObj "list" #[] 0)}/\p.toList=g0 kss)
   (Q:=λnA s'=>s'={s with heap:=((s.heap.update a (Obj.mapSeq λ_=>#[])).push (seqObj "tuple" vs.toArray 0)).push (seqObj "list" #[] 0)}/\failedOf nA=none/\(g0 kss).length=vs.length/\(arrOf nA).map (·.2)=List.toArray ((g0 kss).map λi=>vs.getD i Value.none)) rfl (by lia) N8
   (λp nA s' a1 a2 a3 a4=>⟨a4.1,a3,by rw[<- a4.2,SC,a1],by rw[kat_snds rfl a2,a4.2]⟩) (AQ (lt:=O3 kss) (λi j C hi hj hC=>?lt) (qz (by lia)) ⟨rfl,?od⟩)) ?post λ_ _ e=>e)
  case od=>unfold g0;rw[j_ (by lia),hl]
  case lt=>
   obtain⟨b,o,xs,k,ks,e3,c1,c2,c3,c4,c5⟩:=M' i hi;obtain⟨b',o',xs',k',Jz,e4,d1,d2,d3,d4,d5⟩:=M' j hj;show wpAny (model prog w) A (keyLt' _ (vs.getD i Value.none) (vs.getD j Value.none)) C _ _;rw[e3,e4];refine PySem.W.kat_lt c1 c3 d1 d3 ?_;have hd:decide (xs.size<xs'.size)=decide (xs.toList.length<xs'.toList.length):=by simp
   rw[hd];have m1:=F_ c4;have m2:=F_ d4;obtain⟨q,hq⟩:=Option.isSome_iff_exists.mp (P_.mp (P_.mp hx.2 _ m1) _ m2);refine IF c5 d5 hq (λ_=>⟨P_.mp hx.1 _ m1,P_.mp hx.1 _ m2⟩) ?_;unfold O3 at hC;rw[Sq,Sq,c4,d4]at hC;dsimp only[Option.getD_some]at hC;rw[hq]at hC;exact hC
  case post=>
   rintro⟨⟨⟩,nA⟩ s' ⟨rfl,hf,Dt,hp⟩;dsimp only at hp hf ⊢;rw[hf,hp];refine b_ (seqEpoch_at N9 rfl ?_);refine b_ (listUpdate_at N9 rfl ?_ (hsz2:=by rw[t_,c_,Dt];lia));simp only[bne_self_eq_false,J_,SA];exact g_ h
theorem DC{a:V8}{o:Obj}{n:Nat}{vs:VP}{kss:Wa}{Q:VH}(ho:s.heap.get? a=some o)(hc:o.cls=.type "list"\/o.cls=.type "tuple")(hd:o.data=.seq vs.toArray n)
  (ht:c9 s.heap vs kss) (hx:A9 kss=true) (N8:vs.length<64)
  (q:Q (.ref (s.sz+1)) {s with heap:=sortedAll s.heap vs ((g0 kss).map λi=>vs.getD i .none).toArray}):wpAny (model prog w) A (call (.builtin "sorted") [.ref a]) Q E s:=by
 refine Calls.call_function_entry PyProof.Rows.kind_sorted plain_sorted entry_sorted (args_sorted1 _) ?_;unfold Builtin.«sorted»;refine b_ (m:=checkCount "sorted" 1 1 _) (g_ (b_ (As ho hc hd (b_ (Vt ?_)) (by have:=Sr;lia))));have z1:((s.heap.push (seqObj "list" #[] 0)).update s.sz (Obj.mapSeq (·++vs.toArray))).objs.size=s.sz+1:=by rw[Heap.size_update,size_push']
 have z2:(((s.heap.push (seqObj "list" #[] 0)).update s.sz (Obj.mapSeq (·++vs.toArray))).push (seqObj "list" vs.toArray 0)).get? (s.sz+1)=some (seqObj "list" vs.toArray 0):=by
  rw[<- z1];exact p_ _ rfl
 show wpAny _ _ _ _ _ {s with heap:=((s.heap.push (seqObj "list" #[] 0)).update s.sz (Obj.mapSeq (·++vs.toArray))).push (seqObj "list" vs.toArray 0)};rw[z1];have Rv:c9 (((s.heap.push (seqObj "list" #[] 0)).update s.sz (Obj.mapSeq (·++vs.toArray))).push (seqObj "list" vs.toArray 0)) vs kss:=ht.keeps λb o hb hc=>by
  refine e_ _ ?_;rw[Heap.get?_update_ne _ _ _ _ (w_ (r_ hb))];exact e_ _ hb
 exact b_ (L_ (SL slot_list_sort ⟨_,z2,rfl⟩ entry_list_sort (sL z2 Rv hx N8 ⟨_,rfl,g_ ⟨_,rfl,q⟩⟩) (args_list_sort _)))
end
def CD:D->Wg
 | .lst ds=>(vF ds).bind λkss=>if ds.length<64/\A9 kss=true then some (.lst ((g0 kss).map λi=>ds.getD i .non))else none
 | _=>none
section
variable {X:Cx}{l r:V9}{fa fb:Fe}{ga gb:Gr}{pos p:Pos}
def CF(K:Fg):Wh->Hp->VK->Prop:=λxs H Q=>∃(a:V8)(vs:Wh)(kss:Wa),xs=[.ref a]/\cW K H a vs/\uR K H vs kss/\vs.length<64/\A9 kss=true/\∀q,H q=none->Q (.ref q) (upd H q (.lst ((g0 kss).map λi=>vs.getD i .non)))
theorem uR.len{K:Fg}{H:Hp}:∀{vs:Wh}{kss:Wa},uR K H vs kss->vs.length=kss.length
 | [],[],_=>rfl
 | [],_::_,t=>t.elim
 | _::_,[],t=>t.elim
 | _::_,_::_,t=>by rw[m_,m_,uR.len t.2]
theorem oX{vs:Wh}{us:VP}(r:aw vs us):∀{is:VW},(∀i∈is,i<vs.length)->aw (is.map λi=>vs.getD i .non) (is.map λi=>us.getD i .none)
 | [],_=>.nil
 | i::is,h=>by
  have hi:=h i (f_ ..);obtain⟨u,h5,h6⟩:=aw.get r (v_ hi);refine .cons ?_ (oX r λj hj=>h j (d_ _ hj));dsimp only;rw[Sq,Sq,h5,v_ hi];exact h6
theorem qI:dv X (.builtin "sorted") (CF X.K):=by
 intro pins s σ H xs us Q I rs h;obtain⟨a,vs,kss,rfl,hq,ht,N8,hx,q⟩:=h;obtain⟨u,rfl,rx⟩:=vals1 rs;cases rx;obtain⟨bu,rv,pl,hz⟩:=I.list hq;obtain⟨o,ho,hc,n,hd⟩:=pl.isList;have hl:=rv.length;refine DC ho (.inl hc) hd (ht.heap I rv) hx (by lia) ?_;obtain⟨e,he⟩:=sortedAll_at s.heap bu ((g0 kss).map λi=>bu.getD i .none).toArray;have hk:=ht.len;have v2:=oX rv (is:=g0 kss) λi hi=>by have:=xx i hi;lia
 refine⟨.ref _,_,I.laid (t':=s.toks) (o:=.lst ((g0 kss).map λi=>vs.getD i .non)) (λb o z=>sortedAll_old z) (UC _) ⟨?_,_,e,v2,by simpa using he⟩,rfl,q _ (I.hok.fresh (UC _))⟩;rw[c_,Bl];lia
theorem o7{K:Fg}{Z:Hp}{ds:Wf}{vs:Wh}(r:ai K Z ds vs):∀{is:VW},(∀i∈is,i<ds.length)->ai K Z (is.map λi=>ds.getD i .non) (is.map λi=>vs.getD i .non)
 | [],_=>rfl
 | i::is,h=>by
  have hi:=h i (f_ ..);obtain⟨u,h5,h6⟩:=r.get (v_ hi);refine ai.cons ?_ (o7 r λj hj=>h j (d_ _ hj));dsimp only;rw[Sq,Sq,h5,v_ hi];exact h6
theorem Fu{K:Fg}:gB K .nw CD (CF K):=λ{Z H x dx d Q} s h e k=>by
 cases dx<;>try cases e
 obtain⟨kss,h1,h2⟩:=a_.mp e;obtain⟨hl,rfl⟩:=rh h2;obtain⟨a,vs,rfl,q,rr⟩:=h.lst s;have ht:=uR.of h1 rr;have hk:=ht.len;have vl:=rr.len;exact⟨a,vs,kss,rfl,q,ht.mono s,by lia,hl.2,λp hp=>k _ Z _ (Ex.newL s hp) ⟨p,_,_,rfl,rfl,hp,av,s.free hp,o7 rr λi hi=>by have:=xx i hi;lia⟩⟩
theorem EZ(hm:X.mg "sorted"=none)(ha:PD X ga l fa)(hg:Gl X "sorted":=by rfl)(he:starEach [l] X.env=[(false,eval l X.env)]:=by rfl):PD X .nw (.Call (.Name "sorted" p) [l] [] pos) (bt CD fa):=
 oY qI Fu PyProof.Rows.boot_sorted hm ha (by decide) (by decide) hg he
end
end Mi
namespace Mi
open PySem PySem.Spec PyProof.Rows L2
section
variable {X:Cx}{l r:V9}{fa fb:Fe}{ga gb:Gr}{pos p:Pos}
end
section
variable {X:Cx}{l r:V9}{fa fb:Fe}{ga gb:Gr}{pos p:Pos}
end
section
variable {X:Cx}{l:V9}{fa:Fe}{ga:Gr}{pos p2:Pos}{lo hi st:Option V9}{fl fh fs:Fo}
end
section
variable {prog:V2}{w:V5}{K:Type}[DecidableEq K]{knd:HeapKind prog w K}{A:V3}{E:VH}{s:V1}{a b:V8}{xa xb:List (K×V8×V0)}
end
section
variable {X:Cx}{l r:V9}{fa fb:Fe}{ga gb:Gr}{pos p:Pos}{k:Nat}{th:Str->Int}
end
section
variable {prog:V2}{w:V5}{K:Type}[DecidableEq K]{knd:HeapKind prog w K}{A:V3}{E:VH}{s:V1}
end
section
variable {prog:V2}{w:V5}{K:Type}[DecidableEq K]{knd:HeapKind prog w K}
end
def hR(th:Str->Int)(q:Wb):Int:=reduceHash (Builtin.Tuple.tupleHashOf (q.map (hK th)))
section
variable {X:Cx}{rg:Gr}{o e:V9}{td ty:TE}{fe:Fe}{pos px apos bA:Pos}{k:Nat}{th:Str->Int}
open Classical in
open Classical in
end
structure nD(K:Fg) where
 S:Type
 fp:List Addr
 J:S->Hp->Hp->Prop
 nz:∀{g Z H},J g Z H->∀b∈fp,Z b=none
 nh:∀{g Z H},J g Z H->∀b∈fp,H b≠none
 mono:∀{g Z H Z' H'},J g Z H->aD Z Z'->(∀b∈fp,Z' b=none)->(∀b∈fp,H' b=H b)->J g Z' H'
structure Wr{K:Fg}(T:nD K)(B Z H:Hp)(env:En)(σ:L2.St)(g:T.S):Prop where
 R:Rl K B Z H env σ
 j:T.J g Z H
 b:∀x∈T.fp,B x=none
 no:∀(i:Nat) w x,env[i]?=some (.O w)->σ[i]?=some (some (.ref x))->x∉T.fp
section
variable {K:Fg}{T:nD K}{B Z H Z' H':Hp}{env env':En}{σ σ':L2.St}{g:T.S}
theorem jO(s:aD H H')(h:H b≠none):H' b=H b:=by
 cases e:H b with
 | none=>exact absurd e h
 | some o=>exact s b o e
theorem Wr.ext(W:Wr T B Z H env σ g)(e:Ex Z H Z' H'):Wr T B Z' H' env σ g:=
 ⟨W.R.ext e,T.mono W.j e.z (λb hb=>e.fr b (T.nh W.j b hb) (T.nz W.j b hb)) (λb hb=>jO e.h (T.nh W.j b hb)),W.b,W.no⟩
def lq(fp:VT)(B H:Hp):Hp:=λb=>if b∈fp then H b else B b
theorem cZ(hb:b∈fp):lq fp B H b=H b:=i_ hb
theorem bN(hb:b∉fp):lq fp B H b=B b:=j_ hb
theorem Wr.sub(W:Wr T B Z H env σ g):aD B (lq T.fp B H):=λb o e=>by
 rw[bN λhb=>by rw[W.b b hb]at e;cases e];exact e
theorem Wr.bigH(W:Wr T B Z H env σ g):aD (lq T.fp B H) H:=λb o e=>by
 by_cases hb:b∈T.fp
 .rw[cZ hb]at e;exact e
 .rw[bN hb]at e;exact W.R.bh b o e
theorem Wr.big(W:Wr T B Z H env σ g):Rl K (lq T.fp B H) Z H env σ:=
 ⟨W.bigH,W.R.zh,W.R.len,W.R.sl,λi w a h1 h2=>by rw[bN (W.no i w a h1 h2)];exact W.R.ob i w a h1 h2,W.R.ap⟩
theorem Wr.back(W:Wr T B Z H env σ g)(x:Ex Z (lq T.fp B H) Z' H')(R:Rl K (lq T.fp B H) Z' H' env' σ'):Ex Z B Z' H'/\Wr T B Z' H' env' σ' g:=by
 have ne:∀b∈T.fp,lq T.fp B H b≠none:=λb hb=>by rw[cZ hb];exact T.nh W.j b hb
 have no:∀(i:Nat) w x,env'[i]?=some (.O w)->σ'[i]?=some (some (.ref x))->x∉T.fp:=λi w y h1 h2 hy=>ne y hy (R.ob i w y h1 h2);refine⟨⟨W.sub.trans x.h,x.z,x.zh,λb hb hz=>x.fr b (fY W.sub hb) hz,x.nf⟩,⟨W.sub.trans R.bh,R.zh,R.len,R.sl,λi w y h1 h2=>?_,R.ap⟩,?_,W.b,no⟩
 .have:=R.ob i w y h1 h2;rw[bN (no i w y h1 h2)]at this;exact this
 .exact T.mono W.j x.z (λb hb=>x.fr b (ne b hb) (T.nz W.j b hb)) λb hb=>by
   have:=jO x.h (ne b hb);rw[cZ hb]at this;exact this
end
abbrev iL(S:Type):=En->S->Option (Out×S)
abbrev Km{K:Fg}(T:nD K):=En->T.S->Option (Out×T.S)
def DW{K:Fg}(T:nD K)(rg:Gr)(B Z:Hp)(E:Ends):Out->T.S->Prop
 | .nx env',g'=>∀σ' Z' H',Ex Z B Z' H'->Wr T B Z' H' env' σ' g'->E.nx σ' H'
 | .bk env',g'=>∀σ' Z' H',Ex Z B Z' H'->Wr T B Z' H' env' σ' g'->E.bk σ' H'
 | .ct env',g'=>∀σ' Z' H',Ex Z B Z' H'->Wr T B Z' H' env' σ' g'->E.ct σ' H'
 | .rt d,g'=>∀v Z' H',Ex Z B Z' H'->Gd K Z' B H' rg d v->T.J g' Z' H'->E.rt v H'
theorem DW.later{K:Fg}{T:nD K}{B Z Z1 H1:Hp}{E:Ends}{o:Out}{g:T.S}(x:Ex Z B Z1 H1)(h:DW T rg B Z E o g):DW T rg B Z1 E o g:=by
 cases o with
 | nx e=>exact λσ' Z' H' y=>h σ' Z' H' (x.transB y)
 | bk e=>exact λσ' Z' H' y=>h σ' Z' H' (x.transB y)
 | ct e=>exact λσ' Z' H' y=>h σ' Z' H' (x.transB y)
 | rt e=>exact λv Z' H' y=>h v Z' H' (x.transB y)
def KQ{K:Fg}(T:nD K)(rg:Gr)(f:Km T):TS:=λE σ H=>∃env B Z g o g',Wr T B Z H env σ g/\f env g=some (o,g')/\DW T rg B Z E o g'
def SW(X:Cx)(T:nD X.K)(rg:Gr)(st:V_)(f:Km T):Prop:=PS X st (KQ T rg f)
def zP(X:Cx)(T:nD X.K)(rg:Gr)(lA:VV)(f:Km T):Prop:=iG X lA (KQ T rg f)
section
variable {X:Cx}{T:nD X.K}{rg:Gr}{st:V_}{lA a b:VV}{c l r:V9}{rest:VU}{pos:Pos}{tg iter:V9}{body:VV}{fi:Fi}{t:Ft}
def rW{S:Type}(f:Fs):iL S:=λenv g=>(f env).map λo=>(o,g)
theorem F8{f:Fs}{E:Ends}{σ:L2.St}{H:Hp}(hq:KQ T rg (rW f) E σ H):Ki X.K rg f E σ H:=by
 obtain⟨env,B,Z,g,o,g',W,e,k⟩:=hq;obtain⟨o',e1,e2⟩:=K_.mp e;cases e2;refine⟨env,lq T.fp B H,Z,o,W.big,e1,?_⟩;cases o with
 | nx env'=>exact λσ' Z' H' x R=>let ⟨x',W'⟩:=W.back x R;k σ' Z' H' x' W'
 | bk env'=>exact λσ' Z' H' x R=>let ⟨x',W'⟩:=W.back x R;k σ' Z' H' x' W'
 | ct env'=>exact λσ' Z' H' x R=>let ⟨x',W'⟩:=W.back x R;k σ' Z' H' x' W'
 | rt d=>
   intro v Z' H' x q;have ne:∀b∈T.fp,lq T.fp B H b≠none:=λb hb=>by rw[cZ hb];exact T.nh W.j b hb
   exact k v Z' H' ⟨W.sub.trans x.h,x.z,x.zh,λb hb hz=>x.fr b (fY W.sub hb) hz,x.nf⟩ (q.frm W.sub) (T.mono W.j x.z (λb hb=>x.fr b (ne b hb) (T.nz W.j b hb)) λb hb=>by
    have:=jO x.h (ne b hb);rw[cZ hb]at this;exact this)
theorem vA{f:Fs}(h:SD X rg st f):SW X T rg st (rW f):=PS.imp h λ_ _ _=>F8
theorem Lb{f:Fs}(h:tm X rg lA f):zP X T rg lA (rW f):=iG.imp h λ_ _ _=>F8
def fA{S:Type}(f h:iL S):iL S:=λenv g=>(f env g).bind λp=>match p with | (.nx e,g1)=>h e g1 | p=>some p
theorem ek{f h:Km T}(h1:SW X T rg st f)(h2:zP X T rg lA h):zP X T rg (st::lA) (fA f h):=iG.imp (er h1 h2) λE σ H hq=>by
 obtain⟨env,B,Z,g,o,g',W,e,k⟩:=hq;obtain⟨⟨o1,g1⟩,e1,e2⟩:=a_.mp e;refine⟨env,B,Z,g,o1,g1,W,e1,?_⟩;cases o1 with
 | nx JB=>exact λσ' Z' H' x W'=>⟨JB,B,Z',g1,o,g',W',e2,k.later x⟩
 | rt d=>cases e2;exact k
 | bk d=>cases e2;exact k
 | ct d=>cases e2;exact k
theorem pM{f:Km T}(h1:SW X T rg st f):zP X T rg [st] f:=pX h1
def mP{S:Type}(t:Ft)(body:iL S):Wf->En->S->Option (Out×S)
 | [],env,g=>some (.nx env,g)
 | d::ds,env,g=>(t d env).bind λe1=>(body e1 g).bind λp=>match p with
  | (.nx e,g1)=>mP t body ds e g1
  | (.ct e,g1)=>mP t body ds e g1
  | (.bk e,g1)=>some (.nx e,g1)
  | (.rt d,g1)=>some (.rt d,g1)
def qY{S:Type}(fi:Fi)(t:Ft)(body:iL S):iL S:=λenv g=>(fi env).bind λds=>mP t body ds env g
theorem Gj{fb:Km T}(hp:PassesOwn (model X.prog X.w) X.A X.env X.xe)(hc:X.calm=true)(hi:ID X tg iter fi)(hg:GD X tg t)(hb:zP X T rg body fb)
  (hs:∀x,foldedSetIterable iter X.env x=pure x:=by intro _;rfl):SW X T rg (.For tg iter body [] pos) (qY fi t fb):=PS.imp (Cz hp hc hi hg hb hs) λE σ H az=>by
 refine cT λ_ kq=>?_;obtain⟨env,B,Z,g,o,g',W,e,k⟩:=az;obtain⟨ds,e1,e2⟩:=a_.mp e;refine kq (⟨env,B,Z,ds,W.R,e1,λJ Z1 H1 x1 wk=>?_⟩)
 all_goals clear kq
 let In:Nat->L2.St->Hp->Prop:=λi σ H=>∃env' Z' g1,Ex Z B Z' H/\aD Z1 Z'/\Wr T B Z' H env' σ g1/\mP t fb (ds.drop i) env' g1=some (o,g')
 refine⟨λi m σ H=>m=ds.length-i/\i<=ds.length/\In i σ H,⟨ds.length,by simp,Ts _,env,Z1,g,x1.part W.R.bh,aD.refl _,W.ext x1,by simpa using e2⟩,?_⟩;rintro i m σ2 H2 ⟨rfl,hi,env',Z',g1,x2,s2,W2,e3⟩;obtain⟨w1,w2⟩:=wk Z' H2 s2 W2.R.zh i
 by_cases fg:i<ds.length
 .obtain⟨go,yl⟩:=w1 fg;refine .inr ⟨go,In (i+1),λσ' H' n=>⟨ds.length-(i+1),by lia,rfl,fg,n⟩,λx H3 y=>?_⟩;refine cT λ_ kq=>?_;obtain⟨Z3,d,x3,hd,r3⟩:=yl x H3 y;have MV:ds.drop i=d::ds.drop (i+1):=by
   obtain⟨h1,h2⟩:=s_.mp hd;rw[Tq h1,h2]
  rw[MV]at e3;unfold mP at e3;obtain⟨MW,e4,e5⟩:=a_.mp e3;obtain⟨⟨o1,g2⟩,e6,e7⟩:=a_.mp e5;have W3:=W2.ext x3;refine kq (⟨env',lq T.fp B H3,Z3,d,MW,W3.big,r3,e4,λσ4 Z4 H4 y4 R4=>?_⟩)
  all_goals clear kq
  obtain⟨x4',W4⟩:=W3.back (y4.part W3.bigH) R4;have x4:=(x2.transB (x3.part W2.R.bh)).transB x4';have s4:=(s2.trans x3.z).trans y4.z;refine⟨MW,B,Z4,g1,o1,g2,W4,e6,?_⟩;cases o1 with
  | nx FR=>exact λσ5 Z5 H5 x5 W5=>⟨FR,Z5,g2,x4.transB x5,s4.trans x5.z,W5,e7⟩
  | ct FR=>exact λσ5 Z5 H5 x5 W5=>⟨FR,Z5,g2,x4.transB x5,s4.trans x5.z,W5,e7⟩
  | bk FR=>cases e7;exact λσ5 Z5 H5 x5 W5=>k σ5 Z5 H5 (x4.transB x5) W5
  | rt d=>cases e7;exact λv Z5 H5 x5 g5 j5=>k v Z5 H5 (x4.transB x5) g5 j5
 .refine .inl ⟨w2 (by lia),?_⟩;rw[UK (by lia)]at e3;cases e3;exact k σ2 Z' H2 x2 W2
end
def lookI(ks:Wb)(xs:List α)(q:Key):Option α:=match ks,xs with
 | k::ks,x::xs=>if k=q then some x else lookI ks xs q
 | _,_=>none
theorem oU:∀(ks:Wb)(us:VP)(q:Key),valueAt (ks.zip us) q=lookI ks us q
 | [],us,q=>by cases us<;>rfl
 | k::ks,[],q=>rfl
 | k::ks,u::us,q=>by
  unfold lookI
  by_cases h:k=q
  .rw[i_ h];simp[valueAt,h]
  .rw[j_ h,<- oU ks us q];simp[valueAt,h]
theorem ai.lookI{K:Fg}{H:Hp}:∀{ks:Wb}{ds:Wf}{vs:Wh}{q:Key}{d:D},ai K H ds vs->Mi.lookI ks ds q=some d->∃v,Mi.lookI ks vs q=some v/\Rep K H d v
 | [],ds,_,_,_,_,h=>by cases ds<;>cases h
 | k::ks,[],_,_,_,_,h=>by cases h
 | k::ks,e::ds,_,q,d,⟨v,r,e1,h1,h2⟩,h=>by
  subst e1;unfold Mi.lookI at h ⊢
  by_cases hk:k=q
  .rw[i_ hk]at h ⊢;cases h;exact⟨v,rfl,h1⟩
  .rw[j_ hk]at h ⊢;exact ai.lookI h2 h
theorem aw.lookI:∀{ks:Wb}{vs:Wh}{us:VP}{q:Key}{v:V},aw vs us->Mi.lookI ks vs q=some v->∃u,Mi.lookI ks us q=some u/\RelV v u
 | [],vs,_,_,_,_,h=>by cases vs<;>cases h
 | k::ks,_,_,_,_,.nil,h=>by cases h
 | k::ks,_,_,q,d,.cons (a:=a) (b:=b) h1 h2,h=>by
  unfold Mi.lookI at h ⊢
  by_cases hk:k=q
  .rw[i_ hk]at h ⊢;cases h;exact⟨_,rfl,h1⟩
  .rw[j_ hk]at h ⊢;exact aw.lookI h2 h
theorem BA{P P':V2}{w w':V5}{o:Obj}{kvs:List (Key×V0)}(e:hashStr w=hashStr w')(h:o.IsDictOf (aF P w) kvs):o.IsDictOf (aF P' w') kvs:=by
 obtain⟨es,ep,h1,h2,h3,h4,h5⟩:=h;have hk:∀k,IC w k=IC w' k:=λk=>by cases k with | inl i=>rfl | inr x=>exact congrFun e x
 refine⟨es,ep,h1,h2,λx hx=>?_,?_,h5⟩
 .obtain⟨k,a,b⟩:=h3 x hx;exact⟨k,a,b.trans (hk k)⟩
 .clear h5 h2 h3;generalize es.toList=l at h4
  induction h4 with
  | nil=>exact .nil
  | cons a b _ ih=>exact .cons a b ih
section
variable {X:Cx}{rg:Gr}{l r o:V9}{fa fb:Fe}{ga gb:Gr}{pos p:Pos}{k:Nat}{th:Str->Int}
theorem KJ{pins σ H s}{a:V8}{ob:Obj}{ks:Wb}{vs:Wh}(I:Inv X pins σ H s)(hc:H a=some (.ext (iN a ob)))(hx:Es (hashStr X.w) ob a ks vs) :
  ∃us,aw vs us/\us.length=ks.length/\s.heap.get? a=some ob/\ob.IsDictOf (aF X.prog X.w) (ks.zip us)/\(a==sysModules)=false:=by
 obtain⟨h1,h2,h3,P,w,us,e,hv,dd⟩:=hx;exact⟨us,hv,by rw[<- aw.length hv];exact h3,(show bp X.prog X.w H s.heap a (.ext (iN a ob))from I.hok a _ hc).1,BA e.symm dd,h1⟩
theorem Gs{pins σ H s}{a:V8}{ob:Obj}{ks:Wb}{vs:Wh}(I:Inv X pins σ H s)(hc:H a=some (.ext (iN a ob)))(hx:Es (hashStr X.w) ob a ks vs) :
  ∃us,aw vs us/\us.length=ks.length/\s.heap.DictOf (aF X.prog X.w) a (ks.zip us)/\(a==sysModules)=false:=by
 obtain⟨us,h1,h2,h3,h4,h5⟩:=KJ I hc hx;exact⟨us,h1,h2,Heap.dictOf_iff.mpr ⟨ob,h3,h4⟩,h5⟩
theorem kn(a:V8)(ob:Obj):∀h1 h2:V4,iN a ob h1->(∀o,h1.get? a=some o->h2.get? a=some o)->iN a ob h2:=λ_ _ e k=>k _ e
def tz:D->Option Key
 | .int i=>some (.inl i)
 | .str x=>some (.inr x)
 | _=>none
theorem qZ{K:Fg}{Z H H0:Hp}{g:Gr}{d:D}{v:V}{q:Key}(h:Gd K Z H0 H g d v)(e:tz d=some q):v=kV q:=by
 cases d<;>cases e
 .exact h.int
 .exact h.str
open Classical in
noncomputable def LN(th:Str->Int):D->Option (Wb×Wf)
 | .ix FQ ks ds=>if FQ=th then some (ks,ds)else none
 | _=>none
open Classical in
theorem Cf(h:LN th d=some x):d=.ix th x.1 x.2:=by
 cases d<;>try cases h
 unfold LN at h;obtain⟨rfl,rfl⟩:=rh h
 rfl
open Classical in
noncomputable def i6(th:Str->Int)(x y:D):Wg:=(LN th x).bind λm=>(tz y).bind λq=>lookI m.1 m.2 q
def F4(th:Str->Int):R2:=λx y H Q=>∃(a:V8)(ob:Obj)(ks:Wb)(vs:Wh)(q:Key)(v:V),x=.ref a/\H a=some (.ext (iN a ob))/\Es th ob a ks vs/\y=kV q/\lookI ks vs q=some v/\Q v H
theorem wV(ho:PE X o td)(hi:PE X i ty)(hs:x8 i):PE X (.Subscript o i pos) (HP (F4 (hashStr X.w)) td ty):=by
 intro pins s σ H Q I h;refine xi Vj.lookup hs (bB (ho pins s σ H _ I h) λu s1 ⟨x,H1,I1,rx,q1⟩=>bB (hi pins s1 σ H1 _ I1 q1) λiv s2 az=>?_);obtain⟨y,H2,I2,ry,a,ob,ks,vs,q,v,ex,hc,hx,ey,hl,q2⟩:=az;subst ex ey;obtain rfl:u=Value.ref a:=rx;obtain⟨us,hv,h1,dd,h2⟩:=Gs I2 hc hx;obtain⟨w',e1,e2⟩:=aw.lookI hv hl;exact⟨dd.typeIs,wpAny_getItem_of (BI ry) dd.mapOf (by rw[oU];exact e1) ⟨v,H2,I2.tok _,e2,q2⟩⟩
theorem Jb{K:Fg}{th:Str->Int}:cX K .cl (i6 th) (F4 th):=λ{Z H x y dx dy d Q} s h1 h2 e kq=>by
 obtain⟨m,e1,e⟩:=a_.mp e;obtain⟨q,e2,e3⟩:=a_.mp e;cases Cf e1;rcases h1 with h1 | ⟨_,_,_,_,e,_⟩ | ⟨_,_,_,e,_⟩ | ⟨_,_,_,_,_,e,_⟩
 .obtain⟨a,ob,vs,rfl,hc,hx,rr⟩:=h1;obtain⟨v,e4,e5⟩:=ai.lookI rr e3;exact⟨a,ob,m.1,vs,q,v,rfl,s _ _ hc,hx,qZ h2 e2,e4,kq v Z H (Ex.refl s) e5⟩
 .cases e
 .cases e
 .cases e
theorem Bb(hw:th=hashStr X.w)(ha:PD X ga l fa)(hb:PD X gb r fb)(hs:x8 r:=by intro _ _;rfl):PD X .cl (.Subscript l r pos) (ak (i6 th) fa fb):=by
 subst hw;exact PE.imp (wV ha hb hs) λ_ _ _ h=>gf Jb h
theorem B3:∀{ks:List α}{us:List β}(_:us.length=ks.length)(q:α)(u:β),(ks++[q]).zip (us++[u])=ks.zip us++[(q,u)]:=λ{ks us} h q u=>by
 rw[List.zip_append h.symm];rfl
open Classical in
open Classical in
end
def QK(a:V8)(ob:Obj)(bs:VT):It:=⟨λi H=>H a=some (.ext (iN a ob))/\i<bs.length,λi H x H'=>H'=H/\∀b,bs[i]?=some b->x=.ref b,λi H=>H a=some (.ext (iN a ob))/\bs.length<=i⟩
theorem vf{P:V2}{w:V5}{K:Fg}{tg:V9}{it a:V8}{ob:Obj}{bs:VT}{es:Array DictEntry}{ep:Nat}(hd:ob.data=.dict es ep)(hp:es.toList.map (·.key)=bs.map Value.ref) :
  Turn P w K tg (QK a ob bs) [it] it (λn h=>h.IsKeyIter it a n es.size ep) where
 mem:=by simp
 obj:=λi h st b hb=>by
  have e:b=it:=by simpa using hb
  subst e;obtain⟨o,e,c,d⟩:=st;exact⟨o,e,λv z=>by rw[d]at z;cases z⟩
 keep:=λi h h' st k=>st.at λo e=>k it (by simp) o e
 item:=by
  intro X hP hw hK hc i pins s σ H E I hf st hg;subst hP hw hK;obtain⟨ha,hi⟩:=hg;have h1:s.heap.get? a=some ob:=(show bp X.prog X.w H s.heap a (.ext (iN a ob))from I.hok a _ ha).1;have hsz:es.size=bs.length:=by have:=S0 List.length hp;simpa using this
  obtain⟨f0,f1,f2,f3,f4,f5⟩:=hf it (by simp);refine z7 st h1 hd (by rw[hsz];exact hi) λh' nA sb=>?_;have I1:Inv X pins σ H {s with heap:=h'}:=I.turned (t':=s.toks) (λb o hb e=>(sb.2 b hb).trans e) f0 f1 f3 f4 f5;obtain⟨o,e,c,d⟩:=id nA;have e2:(es[i]'(by rw[hsz];exact hi)).key=Value.ref bs[i]:=by
   have g:(es.toList.map (·.key))[i]?=(bs.map Value.ref)[i]?:=by rw[hp]
   rw[u_,u_,v_ hi,v_ (by rw[SC,hsz];exact hi)]at g;simpa using g
  rw[e2];exact⟨_,rfl,uo (s:={s with heap:=h'}) e c d (by decide) ⟨V.ref bs[i],H,I1,rfl,⟨rfl,λb hb=>by rw[v_ hi]at hb;cases hb;rfl⟩,nA,λb hb=>(hf b hb).1⟩⟩
 done:=by
  intro X hP hw hK hc i pins s σ H E I hf st hg;subst hP hw hK;obtain⟨ha,hi⟩:=hg;have h1:s.heap.get? a=some ob:=(show bp X.prog X.w H s.heap a (.ext (iN a ob))from I.hok a _ ha).1;have hsz:es.size=bs.length:=by have:=S0 List.length hp;simpa using this
  obtain⟨f0,f1,f2,f3,f4,f5⟩:=hf it (by simp);exact Ff (I.ok.hd hc) st h1 hd (by rw[hsz];exact hi) λh' eb=>⟨rfl,I.turned (t':=s.toks) (λb o hb e=>eb b o hb e) f0 f1 f3 f4 f5⟩
 self:=λ_ _ _ _ _ st h=>wpAny_pyIter_keyiter st h
section
variable {X:Cx}{tg:V9}
def Ji(K:Fg)(th:Str->Int)(td:TE):TI:=λσ H R=>td σ H λx H1=>∃(a:V8)(ks:Wa)(bs:VT)(vs:Wh),x=.ref a/\H1 a=some (.ext (ck th a ks bs vs))/\fH K H1 ks bs/\(bs.length=ks.length->∀ob,R (QK a ob bs) (upd H1 a (.ext (iN a ob))))
theorem sA:∀{ks:Wa}{bs:VT}{us:VP}{th:Str->Int},bs.length=ks.length->us.length=ks.length->((gG ks bs us).map (DE th)).map (·.key)=bs.map Value.ref
 | [],bs,us,th,h1,h2=>by
  cases List.length_eq_zero_iff.mp h1;rfl
 | k::ks,bs,us,th,h1,h2=>by
  cases bs with
  | nil=>cases h1
  | cons b bs=>
   cases us with
   | nil=>cases h2
   | cons u us=>
    rw[eH,B_,B_,sA (Nat.succ.inj h1) (Nat.succ.inj h2)];rfl
theorem An{l:V9}{tl:TE}(hl:PE X l tl):PI X tg l (Ji X.K (hashStr X.w) tl):=by
 intro pins s σ H R I h;refine bB (hl pins s σ H _ I h) λv s1 ⟨x,H1,I1,r1,q1⟩=>?_;obtain⟨a,ks,bs,vs,e,hc,hk,q⟩:=q1;subst e;cases r1;obtain⟨ob,es,ep,us,h2,e1,e2,hv,he,hn,wc,hz,l1,l2⟩:ck (hashStr X.w) a ks bs vs s1.heap:=(show bp X.prog X.w H1 s1.heap a (.ext (ck (hashStr X.w) a ks bs vs))from I1.hok a _ hc).1;have hp:es.toList.map (·.key)=bs.map Value.ref:=by rw[he];exact sA l1 l2
 have I2:Inv X pins σ (upd H1 a (.ext (iN a ob))) s1:=I1.write (t':=s1.toks) (by rw[hc];exact True.intro) (.inl rfl) (λb u hb z=>z) ⟨ob,h2⟩ ⟨h2,⟨ob,h2⟩,kn _ _⟩;refine Ce wc h2 e1 e2 ?_;refine⟨s1.heap.objs.size,[s1.heap.objs.size],_,_,upd H1 a (.ext (iN a ob)),rfl,I2.kept (t':=s1.toks) λb o e=>e_ _ e,vf e2 hp,⟨_,p_ _ rfl,rfl,rfl⟩,λb hb=>?_,q l1 ob⟩;have e:b=s1.heap.objs.size:=by simpa using hb
 subst e;exact I2.fpOk (l_ _) (I2.hok.fresh (l_ _))
end
def O1(q:Wb):D:=.tup (q.map kD)
section
variable {X:Cx}{T:nD X.K}{rg:Gr}{pos px:Pos}{tg:V9}{body:VV}{t:Ft}{x:Str}{th:Str->Int}
open Classical in
open Classical in
end
def replI:Wb->List α->Key->α->List α
 | k::ks,x::xs,q,u=>(if k=q then u else x)::replI ks xs q u
 | _,xs,_,_=>xs
open Classical in
noncomputable def w6(ks:Wb)(q:Key):Wb:=if q∈ks then ks else ks++[q]
open Classical in
noncomputable def pdI(ks:Wb)(xs:List α)(q:Key)(u:α):List α:=if q∈ks then replI ks xs q u else xs++[u]
theorem pL:∀(ks:Wb)(xs:List α)(q:Key)(u:α),(replI ks xs q u).length=xs.length
 | [],xs,_,_=>by unfold replI;rfl
 | _::_,[],_,_=>by unfold replI;rfl
 | k::ks,x::xs,q,u=>by unfold replI;rw[m_,m_,pL ks xs q u]
theorem Fm{ks:Wb}{xs:List α}{q:Key}{u:α}(h:xs.length=ks.length):(pdI ks xs q u).length=(w6 ks q).length:=by
 unfold pdI w6
 split
 .rw[pL,h]
 .rw[h_,h_,h];rfl
theorem se(q:Key)(u:V0):∀{ks:Wb}{us:VP},us.length=ks.length->((ks.zip us).map λkv=>if kv.1=q then(kv.1,u)else kv)=ks.zip (replI ks us q u)
 | [],us,_=>by cases us<;>rfl
 | _::_,[],h=>by simp at h
 | k::ks,x::xs,h=>by
  unfold replI;rw[Sv,B_,Sv,se q u (by simpa using h)];congr 1
  by_cases e:k=q
  .rw[i_ e,i_ e]
  .rw[j_ e,j_ e]
theorem aw.replI{v:V}{u:V0}{q:Key}(r:RelV v u):∀{ks:Wb}{vs:Wh}{us:VP},aw vs us->aw (Mi.replI ks vs q v) (Mi.replI ks us q u)
 | [],_,_,h=>by unfold Mi.replI;exact h
 | _::_,_,_,.nil=>.nil
 | k::ks,_,_,.cons a b=>by
  unfold Mi.replI;refine .cons ?_ (aw.replI r b)
  split
  .exact r
  .exact a
theorem aw.pdI{v:V}{u:V0}{q:Key}{ks:Wb}{vs:Wh}{us:VP}(r:RelV v u)(h:aw vs us):aw (Mi.pdI ks vs q v) (Mi.pdI ks us q u):=by
 unfold Mi.pdI
 split
 .exact aw.replI r h
 .exact aw.append h (.cons r .nil)
open Classical in
theorem zd{ks:Wb}{us:VP}(q:Key)(u:V0)(hl:us.length=ks.length):stored (ks.zip us) q u=(w6 ks q).zip (Mi.pdI ks us q u):=by
 unfold stored w6 Mi.pdI
 by_cases h:q∈ks
 .have e0:((ks.zip us).any λkv=>decide (kv.1=q))=true:=by
   rw[Te];obtain⟨i,hi,e⟩:=List.mem_iff_getElem.mp h;exact⟨(ks[i],us[i]'(by rw[hl];exact hi)),List.mem_iff_getElem.mpr ⟨i,by rw[U2,hl,U9];exact hi,by simp⟩,x_ e⟩
  rw[i_ e0,i_ h,i_ h,<- se q u hl]
 .have e0:((ks.zip us).any λkv=>decide (kv.1=q))=false:=by
   rw[Vn];intro kv hkv hq;exact h (by rw[<- H_ hq];exact(U0 (show(kv.1,kv.2)∈ks.zip us from hkv)).1)
  rw[j_ (by rw[e0];exact Sf),j_ h,j_ h,B3 hl]
noncomputable def kO(m:Wb×Wf)(q:Key)(d:D):Wb×Wf:=(w6 m.1 q,Mi.pdI m.1 m.2 q d)
noncomputable def dW(m:Wb×Wf):Wf->Option (Wb×Wf)
 | []=>some m
 | .tup [k,v]::r=>(tz k).bind λq=>dW (kO m q v) r
 | _::_=>none
open Classical in
theorem EH(ks:Wb)(q:Key):(w6 ks q).length<=ks.length+1:=by unfold w6;split<;>simp
theorem lW:∀{xs:Wf}{m m':Wb×Wf}{k v:D}{q:Key},dW m xs=some m'->tz k=some q->dW m (xs++[.tup [k,v]])=some (kO m' q v)
 | [],m,m',k,v,q,h,hk=>by
  cases h;show(tz k).bind _=_;rw[hk];rfl
 | x::r,m,m',k,v,q,h,hk=>by
  unfold dW at h
  split at h
  .rename_i e;cases e
  .rename_i k' v' r' e;cases e;obtain⟨q',h1,h2⟩:=a_.mp h;show(tz k').bind _=_;rw[h1];exact lW h2 hk
  .cases h
section
variable {X:Cx}{a:V8}{kx vx:V9}{fk fv:Fe}
def kj(fk fv:Fe):Wc:=λenv=>(fk env).bind λk=>(fv env).bind λv=>(tz k).bind λ_=>some [.tup [k,v]]
abbrev Ai(X:Cx)(a:V8)(kx vx:V9):BdT:=NO X (do let kv <- eval kx X.env;let vv <- holding [kv] (eval vx X.env);standAt {kx.pos with endLine:=vx.pos.endLine,endCol:=vx.pos.endCol};holding [kv,vv] (dictSet a kv vv))
end
section
variable {X:Cx}{a:V8}{kx vx:V9}{gens:VO}{scope:V7}{pos:Pos}{d:Nat}{tg iter uI bT:V9}{ifs jP:VU}{t t':Ft}{c c':Fb}{k:Wc}{fe fk:Fe}{fi:Fi}{is:VW}
end
noncomputable def rA(th:Str->Int)(fi:Fi)(is:VW)(t:Ft)(c:Fb)(k:Wc)(n:Nat)(caps:VW):Fe:=λenv=>(fi env).bind λds=>if cf is (bM n caps env)=true then(dN t c k (bM n caps env) ds).bind λxs=>if xs.length<=16000000 then(dW ([],[]) xs).bind λm=>some (.ix th m.1 m.2)else none else none
theorem uj(h:rA th fi is t c k n caps env=some d) :
  ∃ds xs m,fi env=some ds/\cf is (bM n caps env)=true/\dN t c k (bM n caps env) ds=some xs/\xs.length<=16000000/\dW ([],[]) xs=some m/\d=.ix th m.1 m.2:=by
 obtain⟨ds,e1,e2⟩:=a_.mp h
 by_cases hu:cf is (bM n caps env)=true
 .rw[i_ hu]at e2;obtain⟨xs,e3,e4⟩:=a_.mp e2
  by_cases hl:xs.length<=16000000
  .rw[i_ hl]at e4;obtain⟨m,e5,e6⟩:=a_.mp e4;cases e6;exact⟨ds,xs,m,e1,hu,e3,hl,e5,rfl⟩
  .rw[j_ hl]at e4;cases e4
 .rw[j_ hu]at e2;cases e2
section
variable {X:Cx}{kx vx:V9}{rest:VO}{scope:V7}{pos:Pos}{tg iter:V9}{ifs:VU}{t:Ft}{c:Fb}{k:Wc}{fi:Fi}{is caps:VW}{cl:VM}{Nc own:VS}
end
mutual
def uZ:D->Bool
 | .non=>true
 | .bl _=>true
 | .int _=>true
 | .str _=>true
 | .tup ds=>oe ds
 | _=>false
def oe:Wf->Bool
 | []=>true
 | d::ds=>uZ d&&oe ds
end
def LI:HO->Prop
 | .lst _=>True
 | .ins _ _ _=>True
 | .own _=>True
 | _=>False
def eI(Z:Hp)(fp:VT):Hp:=λb=>if b∈fp then none else Z b
theorem eR{Z:Hp}(h:b∈fp):eI Z fp b=none:=i_ h
theorem bJ{Z:Hp}(h:b∉fp):eI Z fp b=Z b:=j_ h
theorem kh{Z:Hp}:aD (eI Z fp) Z:=λb o e=>by
 by_cases h:b∈fp
 .rw[eR h]at e;cases e
 .rw[bJ h]at e;exact e
section
variable {K:Fg}{Z:Hp}{fp:VT}
theorem Cw{b:V8}{vs:Wh}(hz:∀b∈fp,∀o,Z b=some o->LI o)(h:c7 K Z b vs):c7 K (eI Z fp) b vs:=by
 have ne:∀{o:HO},Z b=some o->¬LI o->b∉fp:=λ{o} e n z=>n (hz b z o e);rcases h with (h | ⟨o,h⟩) | h
 .exact .inl (.inl (by rw[bJ (ne h id)];exact h))
 .exact .inl (.inr ⟨o,by rw[bJ (ne h id)];exact h⟩)
 .exact .inr h
mutual
theorem tV(hz:∀b∈fp,∀o,Z b=some o->LI o):∀(d:D){v:V},uZ d=true->Rep K Z d v->Rep K (eI Z fp) d v
 | .non,_,_,h=>h
 | .bl _,_,_,h=>h
 | .int _,_,_,h=>h
 | .str _,_,_,h=>h
 | .tup ds,_,f,⟨a,vs,e,q,r⟩=>⟨a,vs,e,Cw hz q,jU hz ds (by unfold uZ at f;exact f) r⟩
 | .lst _,_,f,_=>by unfold uZ at f;cases f
 | .dct _,_,f,_=>by unfold uZ at f;cases f
 | .st _,_,f,_=>by unfold uZ at f;cases f
 | .ln _,_,f,_=>by unfold uZ at f;cases f
 | .mp _ _ _,_,f,_=>by unfold uZ at f;cases f
 | .ix _ _ _,_,f,_=>by unfold uZ at f;cases f
 | .nt _ _,_,f,_=>by unfold uZ at f;cases f
 | .ob _ _,_,f,_=>by unfold uZ at f;cases f
theorem jU(hz:∀b∈fp,∀o,Z b=some o->LI o):∀(ds:Wf){vs:Wh},oe ds=true->ai K Z ds vs->ai K (eI Z fp) ds vs
 | [],_,_,h=>h
 | d::ds,_,f,⟨v,r,e,h,q⟩=>by
  unfold oe at f;rw[C_]at f;exact⟨v,r,e,tV hz d f.1 h,jU hz ds f.2 q⟩
end
end
structure Lk{K:Fg}(T:nD K)(x:Addr)(dat:T.S->D):Prop where
 li:∀{g Z H},T.J g Z H->∀b∈T.fp,∀o,H b=some o->LI o
 rp:∀{g Z H},T.J g Z H->Rep K (lq T.fp Z H) (dat g) (.ref x)
theorem uP{p:Prop}[Decidable p]{a:Option α}{b:α}(h:(if p then a else none)=some b):p/\a=some b:=by
 by_cases hp:p
 .rw[i_ hp]at h;exact⟨hp,h⟩
 .rw[j_ hp]at h;cases h
def pV(env:En)(i:Nat)(a:V8):Bool:=match env[i]? with
 | some (.A b)=>decide (b=a)
 | _=>false
theorem eT(h:pV env i a=true):env[i]?=some (.A a):=by
 unfold pV at h
 split at h
 .rename_i b e;rw[H_ h]at e;exact e
 .cases h
section
variable {K:Fg}{T:nD K}{B Z H Z' H':Hp}{env:En}{σ:L2.St}{g:T.S}
theorem Wr.zup(W:Wr T B Z H env σ g):aD Z (lq T.fp Z H):=λb o e=>by
 rw[bN λhb=>by rw[T.nz W.j b hb]at e;cases e];exact e
theorem Wr.frzS(W:Wr T B Z H env σ g){i:Nat}{x:V8}{d:D}(hi:env[i]?=some (.A x))(r:Rep K (lq T.fp Z H) d (.ref x)):Rl K B (lq T.fp Z H) H (env.set i (.F d)) σ:=by
 have hl:i<env.length:=(s_.mp hi).1;have s1:=W.zup;have s2:aD (lq T.fp Z H) H:=λb o e=>by
  by_cases hb:b∈T.fp
  .rw[cZ hb]at e;exact e
  .rw[bN hb]at e;exact W.R.zh b o e
 have zJ:∀{j:Nat}{es:ox},(env.set i (.F d))[j]?=some (.O es)->i≠j:=λ{j es} h z=>by
  subst z;rw[A_ hl]at h;cases h
 refine⟨W.R.bh,s2,by simp[W.R.len],λj s h=>?_,λj fs b h h2=>?_,λj k fs gs b hne h1 h2 h3 h4=>?_⟩
 .by_cases hj:i=j
  .subst hj;rw[A_ hl]at h;cases h;obtain⟨y,e4,q⟩:=W.R.sl i _ hi;cases(show y=some (V.ref x)from q);exact⟨_,e4,_,rfl,r⟩
  .rw[n_ hj]at h;obtain⟨y,e4,q⟩:=W.R.sl j s h;refine⟨y,e4,?_⟩;cases s with
   | un=>trivial
   | F d=>obtain⟨v,e5,q⟩:=q;exact⟨v,e5,Rep.mono s1 d q⟩
   | A a=>exact q
   | O fs=>
    obtain⟨b,pO,e5,e6,e7,q⟩:=q;subst e5;exact⟨b,pO,rfl,e6,by rw[bN (W.no j fs b h e4)];exact e7,q.mono s1⟩
 .have n:=zJ h;rw[n_ n]at h;exact W.R.ob j fs b h h2
 .have n1:=zJ h1;have n2:=zJ h2;rw[n_ n1]at h1;rw[n_ n2]at h2;exact W.R.ap j k fs gs b hne h1 h2 h3 h4
theorem Wr.unfrzS(W:Wr T B Z H env σ g)(x:Ex (lq T.fp Z H) H Z' H'):Ex Z H (eI Z' T.fp) H':=by
 refine⟨x.h,λb u e=>?_,kh.trans x.zh,λb hb e=>?_,λb ob u e=>?_⟩
 .have hn:b∉T.fp:=λz=>by rw[T.nz W.j b z]at e;cases e
  rw[bJ hn];exact x.z b u (by rw[bN hn];exact e)
 .by_cases hn:b∈T.fp
  .exact eR hn
  .rw[bJ hn];exact x.fr b hb (by rw[bN hn];exact e)
 .have hn:b∉T.fp:=λz=>by rw[eR z]at e;cases e
  rw[bJ hn]at e;have:=x.nf b ob u e;rw[bN hn]at this;exact this
theorem Wr.liZ{x:V8}{dat:T.S->D}(L:Lk T x dat)(W:Wr T B Z H env σ g)(y:Ex (lq T.fp Z H) H Z' H'):∀b∈T.fp,∀o,Z' b=some o->LI o:=λb hb o e=>by
 cases e1:H b with
 | none=>exact absurd e1 (T.nh W.j b hb)
 | some u=>
  have:=y.z b u (by rw[cZ hb];exact e1);rw[this]at e;cases e;exact L.li W.j b hb _ e1
theorem Wr.setF(W:Wr T B Z H env σ g)(i:Nat)(r:Rep K Z d v):Wr T B Z H (env.set i (.F d)) (σ.set i (some v)) g:=by
 refine⟨W.R.setF i r,W.j,W.b,λj w x h1 h2=>?_⟩;have hj:i≠j:=λz=>by
  subst z
  by_cases hl:i<env.length
  .rw[A_ hl]at h1;cases h1
  .rw[So (by simpa using Ss hl)]at h1;cases h1
 rw[n_ hj]at h1 h2;exact W.no j w x h1 h2
end
abbrev uQ(S:Type):=En->S->Wg
def RK{K:Fg}(T:nD K)(rg:Gr)(f:uQ T.S):TE:=λσ H Q=>∃env B Z g d,Wr T B Z H env σ g/\f env g=some d/\∀v Z' H',Ex Z H Z' H'->Gd K Z' H H' rg d v->Q v H'
def yR(X:Cx)(T:nD X.K)(rg:Gr)(e:V9)(f:uQ T.S):Prop:=PE X e (RK T rg f)
section
variable {X:Cx}{T:nD X.K}{rg g:Gr}{e c:V9}{f:Fe}{x:V8}{dat:T.S->D}{pos pos':Pos}{y:Str}
def Hn{S:Type}(f:Fe):uQ S:=λenv _=>f env
theorem Cd(h:PD X rg e f):yR X T rg e (Hn f):=PE.imp h λσ H Q hq=>by
 obtain⟨env,B,Z,g,d,W,e,k⟩:=hq;exact⟨env,B,Z,d,W.R,e,k⟩
def yF{S:Type}(i:Nat)(x:V8)(dat:S->D)(f:Fe):uQ S:=λenv g=>if pV env i x=true then(f (env.set i (.F (dat g)))).bind λd=>if uZ d=true then some d else none else none
theorem Jp(i:Nat)(L:Lk T x dat)(h:PD X .cl e f):yR X T .cl e (yF i x dat f):=PE.imp h λσ H Q hq=>by
 obtain⟨env,B,Z,g,d,W,e,k⟩:=hq;unfold yF at e;obtain⟨hi,e⟩:=uP e;obtain⟨d',e1,e⟩:=a_.mp e;obtain⟨hf,e⟩:=uP e;cases e;exact⟨_,B,lq T.fp Z H,_,W.frzS (eT hi) (L.rp W.j),e1,λv Z' H' y r=>k v (eI Z' T.fp) H' (W.unfrzS y) (tV (W.liZ L y) _ hf r)⟩
def B0{S:Type}(i:Nat)(x:V8)(dat:S->D)(f:Fe):uQ S:=λenv g=>if pV env i x=true then(f (env.set i (.F (dat g)))).bind λd=>match d with
 | .lst ds=>if oe ds=true then some (.lst ds)else none
 | _=>none
 else none
theorem Fh(i:Nat)(L:Lk T x dat)(h:PD X .nw e f):yR X T .nw e (B0 i x dat f):=PE.imp h λσ H Q hq=>by
 obtain⟨env,B,Z,g,d,W,e,k⟩:=hq;unfold B0 at e;obtain⟨hi,e⟩:=uP e;obtain⟨d',e1,e⟩:=a_.mp e;cases d'<;>try cases e
 rename_i ds;obtain⟨hf,e⟩:=uP e;cases e;refine⟨_,B,lq T.fp Z H,_,W.frzS (eT hi) (L.rp W.j),e1,λv Z' H' y r=>k v (eI Z' T.fp) H' (W.unfrzS y) ?_⟩;obtain⟨a,vs,Jy,e2,e3,h1,h2,h3,r⟩:=r;cases e3;have hn:a∉T.fp:=λz=>T.nh W.j a z h1;exact⟨a,vs,ds,e2,rfl,h1,h2,by rw[bJ hn];exact h3,jU (W.liZ L y) _ hf r⟩
variable {fw:uQ T.S}
def EM{S:Type}(i:Nat)(f:uQ S):iL S:=λenv g=>(f env g).bind λd=>some (.nx (env.set i (.F d)),g)
theorem LD(i:Nat)(he:yR X T .cl e fw)(hN:X.N.Nodup)(hi:X.N[i]?=some y:=by rfl)(hx:Loc X.env.scope y:=by first | exact Or.inl rfl | exact Or.inr rfl)(hs:swapsWith e (some (.Name y pos')) pos.line X.env=pure false:=by rfl)
  (hf:X.fn y=true\/X.env.scope.names.lookup y=some .local:=by first | exact .inl rfl | exact .inr rfl | assumption):SW X T rg (.Assign [.Name y pos'] e pos) (EM i fw):=PS.imp (jY hN hi hx he hs hf) λE σ H hq=>by
 obtain⟨env,B,Z,g,o,g',W,e,k⟩:=hq;obtain⟨d,e1,e2⟩:=a_.mp e;cases e2;exact⟨env,B,Z,g,d,W,e1,λv Z' H' x r=>k _ Z' H' (x.part W.R.bh) ((W.ext x).setF i r)⟩
def HR{S:Type}(f:uQ S):iL S:=λenv g=>(f env g).bind λd=>some (.rt d,g)
theorem K4(he:yR X T rg e fw):SW X T rg (.Return (some e) pos) (HR fw):=PS.imp (mo he) λE σ H hq=>by
 obtain⟨env,B,Z,g,o,g',W,e,k⟩:=hq;obtain⟨d,e1,e2⟩:=a_.mp e;cases e2;exact⟨env,B,Z,g,d,W,e1,λv Z' H' x r=>k v Z' H' (x.part W.R.bh) (r.frm W.R.bh) (W.ext x).j⟩
def E2{S:Type}(f:uQ S):iL S:=λenv g=>(f env g).bind λ_=>some (.nx env,g)
theorem Kw(he:yR X T .cl e fw)(hs:swapsWith e none pos.line X.env=pure false:=by rfl):SW X T rg (.Expr e pos) (E2 fw):=PS.imp (fR he hs) λE σ H hq=>by
 obtain⟨env,B,Z,g,o,g',W,e,k⟩:=hq;obtain⟨d,e1,e2⟩:=a_.mp e;cases e2;exact⟨env,B,Z,g,d,W,e1,λv Z' H' x r=>k _ Z' H' (x.part W.R.bh) (W.ext x)⟩
end
def A2(K:Fg)(a:V8)(us:Wh):nD K where
 S:=Wf
 fp:=[a]
 J:=λds Z H=>Z a=none/\H a=some (.lst us)/\ai K Z ds us
 nz:=λh b hb=>by rw[k_.mp hb];exact h.1
 nh:=λh b hb=>by obtain⟨_,e,_⟩:=h;rw[k_.mp hb,e];simp
 mono:=λh s hz hh=>by
  obtain⟨_,e,r⟩:=h;have ha:=k_.mpr (rfl:a=a);exact⟨hz a ha,by rw[hh a ha];exact e,ai.mono s _ r⟩
theorem Pd{K:Fg}{a:V8}{us:Wh}:Lk (A2 K a us) a (λds=>.lst ds) where
 li:=λh b hb o e=>by
  obtain⟨_,e1,_⟩:=h;rw[k_.mp hb,e1]at e;cases e;trivial
 rp:=λ{g Z H} h=>by
  obtain⟨hz,e1,r⟩:=h;have s:aD Z (lq [a] Z H):=λb o e=>by
   rw[bN λhb=>by rw[k_.mp hb,hz]at e;cases e];exact e
  exact⟨a,us,rfl,cW.of (by rw[show(A2 K a us).fp=[a]from rfl,cZ (k_.mpr rfl)];exact e1),ai.mono s _ r⟩
def jo(K:Fg)(Z H:Hp):VT->List Wf->Prop
 | [],ls=>ls=[]
 | a::as,ls=>∃ds r us,ls=ds::r/\H a=some (.lst us)/\ai K Z ds us/\jo K Z H as r
section
variable {K:Fg}{Z H Z' H':Hp}
theorem jo.mono(s:aD Z Z'):∀{as:VT}{ls:List Wf},jo K Z H as ls->(∀b∈as,H' b=H b)->jo K Z' H' as ls
 | [],_,h,_=>h
 | a::as,_,⟨ds,r,us,e,ha,q,t⟩,hh=>⟨ds,r,us,e,by rw[hh a f_];exact ha,ai.mono s _ q,jo.mono s t λb hb=>hh b (d_ _ hb)⟩
theorem jo.at:∀{as:VT}{ls:List Wf}{b:V8},jo K Z H as ls->b∈as->∃us,H b=some (.lst us)
 | [],_,_,_,hb=>by cases hb
 | a::as,_,b,⟨ds,r,us,e,ha,q,t⟩,hb=>by
  rcases o_.mp hb with z | z
  .exact⟨us,by rw[z];exact ha⟩
  .exact jo.at t z
theorem jo.reps(s:aD Z Z'):∀{as:VT}{ls:List Wf},jo K Z H as ls->(∀b∈as,Z' b=H b)->ai K Z' (ls.map .lst) (as.map .ref)
 | [],_,h,_=>by cases(show _=[]from h);rfl
 | a::as,_,⟨ds,r,us,e,ha,q,t⟩,hh=>by
  subst e;exact⟨_,_,rfl,⟨a,us,rfl,cW.of (by rw[hh a f_];exact ha),ai.mono s _ q⟩,jo.reps s t λb hb=>hh b (d_ _ hb)⟩
theorem jo.get:∀{as:VT}{ls:List Wf}{k:Nat}{ds:Wf},jo K Z H as ls->ls[k]?=some ds->∃a us,as[k]?=some a/\H a=some (.lst us)/\ai K Z ds us
 | [],_,_,_,h,e=>by cases(show _=[]from h);simp at e
 | a::as,_,0,_,⟨ds,r,us,e,ha,q,t⟩,e2=>by subst e;simp at e2;subst e2;exact⟨a,us,rfl,ha,q⟩
 | a::as,_,k+1,_,⟨ds,r,us,e,ha,q,t⟩,e2=>by subst e;simpa using jo.get (k:=k) t (by simpa using e2)
theorem jo.put{es:Wf}{pO:Wh}(r':ai K Z es pO):∀{as:VT}{ls:List Wf}{k:Nat}{a:V8},jo K Z H as ls->as.Nodup->as[k]?=some a->jo K Z (upd H a (.lst pO)) as (ls.set k es)
 | [],_,_,_,_,_,e=>by simp at e
 | b::as,_,0,_,⟨ds,r,us,e,ha,q,t⟩,hn,e2=>by
  subst e;simp at e2;subst e2;exact⟨es,r,pO,rfl,av,r',t.mono (aD.refl _) λc hc=>au λz=>(I_.mp hn).1 (by rw[<- z];exact hc)⟩
 | b::as,_,k+1,a,⟨ds,r,us,e,ha,q,t⟩,hn,e2=>by
  subst e;have e3:as[k]?=some a:=by simpa using e2
  have hne:b≠a:=λz=>(I_.mp hn).1 (by rw[z];exact F_ e3);exact⟨ds,r.set k es,us,rfl,by rw[au hne];exact ha,q,jo.put r' t (I_.mp hn).2 e3⟩
theorem jo.app{a:V8}{es:Wf}{pO:Wh}(r':ai K Z es pO)(Rw:H a=some (.lst pO)):∀{as:VT}{ls:List Wf},jo K Z H as ls->jo K Z H (as++[a]) (ls++[es])
 | [],_,h=>by cases(show _=[]from h);exact⟨es,[],pO,rfl,Rw,r',rfl⟩
 | b::as,_,⟨ds,r,us,e,ha,q,t⟩=>by subst e;exact⟨ds,_,us,rfl,ha,q,jo.app r' Rw t⟩
theorem vP:∀{ns:VS}{vs:Wh}{j:Nat}{f:Str}{v:V},ns.Nodup->ns[j]?=some f->vs[j]?=some v->(ns.zip vs).lookup f=some v
 | [],_,_,_,_,_,e,_=>by simp at e
 | _::_,[],_,_,_,_,_,e=>by simp at e
 | n::ns,w::vs,0,f,v,_,e,e2=>by simp at e e2;subst e;subst e2;simp[List.lookup]
 | n::ns,w::vs,j+1,f,v,hn,e,e2=>by
  have e3:ns[j]?=some f:=by simpa using e
  have hne:(f==n)=false:=S_.mpr λz=>(I_.mp hn).1 (by rw[<- z];exact F_ e3);rw[Sv,Sz,hne];exact vP (I_.mp hn).2 e3 (by simpa using e2)
theorem xC:∀{ns:VS}{vs:Wh}{f:Str},f∉ns->(ns.zip vs).lookup f=none
 | [],_,_,_=>rfl
 | _::_,[],_,_=>rfl
 | n::ns,w::vs,f,h=>by
  have hne:(f==n)=false:=S_.mpr λz=>h (by rw[z];exact f_);rw[Sv,Sz,hne];exact xC λz=>h (d_ _ z)
theorem qO{f:Str}{y:V}:∀{ns:VS}{vs:Wh},vs.length=ns.length->f∉ns->fZ f y (ns.zip vs)=(ns++[f]).zip (vs++[y])
 | [],[],_,_=>rfl
 | [],_::_,h,_=>by cases h
 | _::_,[],h,_=>by cases h
 | n::ns,w::vs,h,hf=>by
  have hne:¬n=f:=λz=>hf (by rw[z];exact f_);rw[Sv,show fZ f y ((n,w)::ns.zip vs)=(if n=f then(n,y)::ns.zip vs else(n,w)::fZ f y (ns.zip vs))from rfl,j_ hne,qO (Nat.succ.inj h) λz=>hf (d_ _ z)]
  rfl
end
abbrev S2:=Wf×List Wf
structure JP(K:Fg)(C x dx:Addr)(cn ons:List Str)(as:List Addr)(g:S2)(Z H:Hp):Prop where
 ex:∃vs,H x=some (.ins C dx ((cn++ons).zip (vs++as.map .ref)))/\ai K Z g.1 vs/\vs.length=cn.length
 dn:H dx=some (.own x)
 ow:jo K Z H as g.2
 z:∀b∈x::dx::as,Z b=none
 nd:(x::dx::as).Nodup
 la:as.length=ons.length
 cl:zR K C
 na:∀n∈cn++ons,dX K C n
def dY(K:Fg)(C x dx:V8)(cn ons:VS)(as:VT):nD K where
 S:=S2
 fp:=x::dx::as
 J:=JP K C x dx cn ons as
 nz:=λh=>h.z
 nh:=λh b hb=>by
  rcases o_.mp hb with z | hb
  .obtain⟨vs,e,_⟩:=h.ex;rw[z,e];simp
  rcases o_.mp hb with z | hb
  .rw[z,h.dn];simp
  .obtain⟨us,e⟩:=h.ow.at hb;rw[e];simp
 mono:=λh s hz hh=>by
  obtain⟨vs,e,r,l⟩:=h.ex;exact⟨⟨vs,by rw[hh _ f_];exact e,ai.mono s _ r,l⟩,by rw[hh _ (d_ _ f_)];exact h.dn,h.ow.mono s λb hb=>hh b (d_ _ (d_ _ hb)),hz,h.nd,h.la,h.cl,h.na⟩
def zz(ns:VS)(g:S2):D:=.ob ns (g.1++g.2.map .lst)
theorem Oj{K:Fg}{C x dx:V8}{cn ons:VS}{as:VT}:Lk (dY K C x dx cn ons as) x (zz (cn++ons)) where
 li:=λh b hb o e=>by
  rcases o_.mp hb with z | hb
  .obtain⟨vs,e1,_⟩:=h.ex;rw[z,e1]at e;cases e;trivial
  rcases o_.mp hb with z | hb
  .rw[z,h.dn]at e;cases e;trivial
  .obtain⟨us,e1⟩:=h.ow.at hb;rw[e1]at e;cases e;trivial
 rp:=λ{g Z H} h=>by
  have s:aD Z (lq (x::dx::as) Z H):=λb o e=>by
   rw[bN λhb=>by rw[h.z b hb]at e;cases e];exact e
  obtain⟨vs,e,r,l⟩:=h.ex;exact⟨x,C,dx,vs++as.map .ref,rfl,by rw[show(dY K C x dx cn ons as).fp=x::dx::as from rfl,cZ f_];exact e,h.cl,h.na,
   (ai.mono s _ r).app (h.ow.reps s λb hb=>cZ (d_ _ (d_ _ hb)))⟩
def ny(f:Str):D->Wg
 | .ob ns ds=>(ns.zip ds).lookup f
 | _=>none
theorem AH{K:Fg}{H:Hp}{f:Str}{d:D}:∀{ns:VS}{ds:Wf}{vs:Wh},ai K H ds vs->(ns.zip ds).lookup f=some d->∃v,(ns.zip vs).lookup f=some v/\Rep K H d v/\f∈ns
 | [],_,_,_,e=>by simp at e
 | _::_,[],_,_,e=>by simp at e
 | n::ns,d'::ds,_,⟨v,r,e1,h,q⟩,e=>by
  subst e1;rw[Sv,Sz]at e ⊢;cases hb:f==n with
  | true=>rw[hb]at e;cases e;exact⟨v,rfl,h,by rw[eq_of_beq hb];exact f_⟩
  | false=>
   rw[hb]at e;obtain⟨v',e2,h2,h3⟩:=AH q e;exact⟨v',e2,h2,d_ _ h3⟩
section
variable {X:Cx}{rg:Gr}{e o:V9}{f:Str}{fe:Fe}{pos:Pos}
theorem Gk(he:PD X .cl o fe)(hb:attributeBase o f X.env (eval o X.env)=eval o X.env:=by rfl):PD X .cl (.Attribute o f pos) (bt (ny f) fe):=PE.imp (qp he hb) λσ H Q hq=>by
 obtain⟨env,B,Z,d,R,e,k⟩:=hq;obtain⟨d1,e1,e2⟩:=a_.mp e;refine⟨env,B,Z,d1,R,e1,λv Z1 H1 x1 r=>?_⟩;cases d1<;>try cases e2
 rename_i ns ds;obtain⟨x,C,dx,vs,rfl,q,c,n,t⟩:=r;obtain⟨v',e3,h3,hm⟩:=AH t (show(ns.zip ds).lookup f=some d from e2);exact⟨x,C,dx,_,v',rfl,x1.zh _ _ q,c,n f hm,e3,k v' Z1 H1 x1 h3⟩
end
section
variable {K:Fg}{T:nD K}{B Z H Z' H':Hp}{env:En}{σ:L2.St}{g g':T.S}
theorem Wr.after2(W:Wr T B Z H env σ g)(x:Ex Z (eI H T.fp) Z' H')(j:T.J g' Z' H'):Ex Z B Z' H'/\Wr T B Z' H' env σ g':=by
 have sb:aD B (eI H T.fp):=λb o e=>by
  rw[bJ (λz=>by rw[W.b b z]at e;cases e)];exact W.R.bh b o e
 refine⟨⟨sb.trans x.h,x.z,x.zh,λb h1 h2=>x.fr b (fY sb h1) h2,x.nf⟩,⟨sb.trans x.h,x.zh,W.R.len,λi s h=>?_,W.R.ob,W.R.ap⟩,j,W.b,W.no⟩;obtain⟨y,e1,q⟩:=W.R.sl i s h;refine⟨y,e1,?_⟩;cases s with
 | un=>trivial
 | F d=>obtain⟨v,e2,r⟩:=q;exact⟨v,e2,Rep.mono x.z d r⟩
 | A c=>exact q
 | O ow=>
  obtain⟨c,u,e2,e3,e4,r⟩:=q;subst e2;have e5:eI H T.fp c=some u:=by rw[bJ (W.no i ow c h e1)];exact e3
  exact⟨c,u,rfl,x.h _ _ e5,x.fr c (by rw[e5];simp) e4,r.mono x.z⟩
theorem Wr.put{a:V8}{o:HO}(W:Wr T B Z H env σ g)(ha:a∈T.fp)(j:T.J g' Z (upd H a o)):Ex Z B Z (upd H a o)/\Wr T B Z (upd H a o) env σ g':=by
 refine W.after2 ⟨λb u e=>?_,aD.refl _,bU W.R.zh (T.nz W.j a ha),λb _ h=>h,λ_ _ _ h=>h⟩ j
 by_cases hb:b∈T.fp
 .rw[eR hb]at e;cases e
 .rw[bJ hb]at e;rw[au λz=>hb (by rw[z];exact ha)];exact e
end
section
variable {X:Cx}{rg:Gr}{C x dx:V8}{cn ons:VS}{as:VT}{e:V9}{y f:Str}{px apos fpos bA pos:Pos}
def sT(i:Nat)(x:V8)(k:Nat)(fe:uQ S2):iL S2:=λenv g=>if pV env i x=true then(fe env g).bind λd=>match g.2[k]? with
 | some ds=>if ds.length<16000000 then some (.nx env,(g.1,g.2.set k (ds++[d])))else none
 | none=>none
 else none
theorem GA{fe:uQ S2}(i k:Nat)(he:yR X (dY X.K C x dx cn ons as) .cl e fe)(hf:ons[k]?=some f:=by rfl)(JQ:(cn++ons).Nodup:=by decide)(hN:X.N[i]?=some y:=by rfl)(hv:qP X.env.scope y:=by first | exact Or.inl rfl | exact Or.inr (Or.inl rfl) | exact Or.inr (Or.inr rfl))
  (hd:(y==("__debug__":Str))=false:=by decide) (eM:(y==("__classdict__":Str))=false:=by decide) (hst:starEach [e] X.env=[(false,eval e X.env)]:=by rfl)
  (hb1:attributeBase (.Name y px) f X.env (eval (.Name y px) X.env)=eval (.Name y px) X.env:=by rfl)
  (fM:attributeBase (.Attribute (.Name y px) f fpos) "append" X.env (eval (.Attribute (.Name y px) f fpos) X.env)=eval (.Attribute (.Name y px) f fpos) X.env:=by rfl)
  (kG:((backTo bA (starEach [e] X.env)).all (λx=>!x.1)&&(backToKw bA (keywordEach [] X.env)).all (λx=>x.1.isSome)
   && decide (([e]:VU).length+([]:List Keyword).length+(if([]:List Keyword).isEmpty then 0 else 1)<30))=true:=by rfl)
  (fN:(apos.endLine==bA.line)=true:=by rfl)
  (hs:swapsWith (.Call (.Attribute (.Attribute (.Name y px) f fpos) "append" apos) [e] [] bA) none pos.line X.env=pure false:=by rfl) :
  SW X (dY X.K C x dx cn ons as) rg (.Expr (.Call (.Attribute (.Attribute (.Name y px) f fpos) "append" apos) [e] [] bA) pos) (sT i x k fe):=by
 refine PS.imp (fR (pG SY Uu Uv iw (qp (cF hN hv hd eM) hb1) (aY he cj hst) fM kG fN hst rfl) hs) λE σ H az=>?_;obtain⟨env,B,Z,g,o,g',W,e,kk⟩:=az;unfold sT at e;obtain⟨hi,e⟩:=uP e;obtain⟨d,e1,e⟩:=a_.mp e
 split at e
 .rename_i ds hk;obtain⟨hl,e⟩:=uP e;cases e;obtain⟨yv,e3,e4⟩:=W.R.sl i _ (eT hi);cases(show yv=some (V.ref x)from e4);obtain⟨a,us,ea,hu,r⟩:=W.j.ow.get hk;obtain⟨vs,ex,rv,lv⟩:=W.j.ex;have hm:f∈cn++ons:=y_ _ (F_ hf);have Ri:((cn++ons).zip (vs++as.map V.ref)).lookup f=some (V.ref a):=by
   refine vP (j:=cn.length+k) JQ ?_ ?_
   .rw[q_ (UR _ _),TN];exact hf
   .rw[q_ (by rw[lv];exact UR _ _),lv,TN,u_,ea];rfl
  refine⟨_,e3,x,C,dx,_,.ref a,rfl,ex,W.j.cl,W.j.na f hm,Ri,.inl ⟨rfl,us,cW.of hu⟩,env,B,Z,g,d,W,e1,λv Z1 H1 x1 g1=>?_⟩;have W1:=W.ext x1;have r1:=ai.mono x1.z ds r;have ha:=x1.h _ _ hu;refine⟨a,us,v,rfl,rfl,ha,by rw[<- r.len,Sr];lia,?_⟩;have hnd:=W1.j.nd;have GZ:a∈as:=F_ ea;have hxa:x≠a:=λz=>(I_.mp hnd).1 (by rw[z];exact d_ _ GZ);have hda:dx≠a:=λz=>(I_.mp (I_.mp hnd).2).1 (by rw[z];exact GZ);have hnas:as.Nodup:=(I_.mp (I_.mp hnd).2).2;obtain⟨vs1,ex1,rv1,lv1⟩:=W1.j.ex;obtain⟨x2,W2⟩:=W1.put (a:=a) (o:=.lst (us++[v])) (g':=(g.1,g.2.set k (ds++[d]))) (d_ _ (d_ _ GZ))
   ⟨⟨vs1,by rw[au hxa];exact ex1,rv1,lv1⟩,by rw[au hda];exact W1.j.dn,jo.put (r1.app (ai.one g1)) W1.j.ow hnas ea,W1.j.z,hnd,W1.j.la,W1.j.cl,W1.j.na⟩
  exact kk σ Z1 _ ((x1.part W.R.bh).transB x2) W2
 .cases e
end
abbrev MM:=V8->Wf->S2->Option (D×S2)
def Ny(K:Fg)(C:V8)(cn ons:VS)(n:Nat)(m:MM):Sp:=λvs H Q _=>∃Z ds us x dx as g d g',vs=.ref x::us/\ds.length=n/\aD Z H/\ai K Z ds us/\JP K C x dx cn ons as g Z H/\m x ds g=some (d,g')/\
 ∀v Z' H',Ex Z (eI H (x::dx::as)) Z' H'->Rep K Z' d v->JP K C x dx cn ons as g' Z' H'->Q v H'
def startM(n:Nat)(x:V8)(ds:Wf):En:=.A x::(ds.map .F++List.replicate (n-(ds.length+1)) .un)
def nH(f:V8->iL S2)(n:Nat):MM:=λx ds g=>(f x (startM n x ds) g).bind λp=>match p with
 | (.rt d,g')=>some (d,g')
 | (.nx _,g')=>some (.non,g')
 | _=>none
theorem Rl.startM{K:Fg}{Z H:Hp}{N:VS}{ds:Wf}{us:Wh}{x:V8}{fp:VT}(s:aD Z H)(r:ai K Z ds us)(hN:ds.length+1<=N.length) :
  Rl K (eI H fp) Z H (Mi.startM N.length x ds) (L2.start N (.ref x::us))/\∀(i:Nat)(es:ox),(Mi.startM N.length x ds)[i]?≠some (.O es):=by
 have hl:=r.len;have no:∀(i:Nat)(es:ox),(Mi.startM N.length x ds)[i]?≠some (.O es):=λi es h=>by
  unfold Mi.startM at h;rcases o_.mp (F_ h)with z | z
  .cases z
  rcases O_.mp z with z | z
  .obtain⟨d,_,z⟩:=E_.mp z;cases z
  .cases(List.mem_replicate.mp z).2
 refine⟨⟨kh,s,?_,λi sl h=>?_,λi es a h=>absurd h (no i es),λi j es _ a _ h=>absurd h (no i es)⟩,no⟩
 .simp only[Mi.startM,L2.start,h_,c_,m_,Sy,<- hl]
  lia
 .cases i with
  | zero=>cases(show some (Slot.A x)=some sl from h);exact⟨_,rfl,rfl⟩
  | succ i=>
   have h':(ds.map Slot.F++List.replicate (N.length-(ds.length+1)) Slot.un)[i]?=some sl:=h;have g:(L2.start N (V.ref x::us))[i+1]?=(us.map some++List.replicate (N.length-(us.length+1)) (none:Option V))[i]?:=rfl;rw[g,<- hl]
   by_cases hi:i<ds.length
   .rw[D_ (by simpa using hi),u_]at h';obtain⟨d,hd,rfl⟩:=K_.mp h';obtain⟨v,hv,rv⟩:=r.get hd;refine⟨some v,?_,v,rfl,rv⟩;rw[D_ (by rw[c_,<- hl];exact hi),u_,hv];rfl
   .rw[q_ (by simpa using hi)]at h';have h2:=h';rw[c_]at h2;have hn:i-ds.length<N.length-(ds.length+1):=by
     have:=(s_.mp h2).1;rwa [Sy]at this
    rw[Sn,i_ hn]at h2;cases h2;refine⟨none,?_,trivial⟩;rw[q_ (by rw[c_,<- hl];exact Ss hi),c_,<- hl,Sn,i_ hn]
section
variable {P:V2}{w:V5}{K:Fg}{mg:VL}{base:V4}{C:V8}{cn ons:VS}
theorem RW{x qual:Str}{st:V_}{f:V8}{fd:V6}{N ps:VS}{k n:Nat}{fb:V8->iL S2}(F:xR K x qual st f fd)(S:bY N ps (aq st))(hp:ps.length=n+1)(hN:n+1<=N.length)
  (hb:∀(a dx:V8)(as:VT)(bP:V0)(A:V3)(outer:List Env)(s:V1)(H:Hp)(E:XK),bo k (A.deeper (envOfC qual (aq st) s.sz f bP))->zP (gE jk P w K mg base N qual (aq st) f bP A outer s H E).nox (dY K C a dx cn ons as) .cl (aP st) (fb a)) :
  dM P w K mg base jk (k+1) f fd ps (Ny K C cn ons n (nH fb N.length)):=by
 refine F.ok S (λvs H Q E hq=>?_) λbP A outer s H vs Q E hr hq=>?_
 .obtain⟨Z,ds,us,x,dx,as,g,d,g',rfl,hl,_,r,_⟩:=hq;rw[m_,<- r.len,hl,hp]
 .obtain⟨Z,ds,us,x,dx,as,g,d,g',rfl,hl,s1,r,j,e,kk⟩:=hq;refine⟨_,hb x dx as bP A outer s H E hr,?_⟩;obtain⟨⟨o,g1⟩,e1,e2⟩:=a_.mp e;obtain⟨R,no⟩:=Rl.startM (x:=x) (fp:=x::dx::as) s1 r (N:=N) (by rw[hl];exact hN);have W:Wr (dY K C x dx cn ons as) (eI H (x::dx::as)) Z H (startM N.length x ds) (L2.start N (.ref x::us)) g:=⟨R,j,λb hb=>eR hb,λi es b h=>absurd h (no i es)⟩;cases o with
  | rt d'=>cases e2;exact⟨_,_,Z,g,_,_,W,e1,kk⟩
  | nx _=>cases e2;exact⟨_,_,Z,g,_,_,W,e1,λσ' Z' H' x1 W1=>kk .non Z' H' x1 rfl W1.j⟩
  | bk _=>cases e2
  | ct _=>cases e2
structure Na(P:Program)(w:World)(K:Fg)(mg:Str->Option Value)(base:Heap)(k:Nat)(C:Addr)(cn ons:List Str)(mn:Str)(n:Nat)(m:MM):Prop where
 ex:∃f fd ps,CU K C mn f/\dM P w K mg base jk k f fd ps (Ny K C cn ons n m)/\Binds K fd ps []
end
def RP{K:Fg}(T:nD K)(f:En->T.S->Option (D×T.S)):TE:=λσ H Q=>∃env B Z g d g',Wr T B Z H env σ g/\f env g=some (d,g')/\∀v Z' H',Ex Z B Z' H'->Rep K Z' d v->Wr T B Z' H' env σ g'->Q v H'
def OS(X:Cx)(T:nD X.K)(e:V9)(f:En->T.S->Option (D×T.S)):Prop:=PE X e (RP T f)
section
variable {X:Cx}{rg:Gr}{C x dx:V8}{cn ons:VS}{as:VT}{y mn:Str}{px apos pos pos':Pos}{l e:V9}{es:VU}{fs:Fes}{k n:Nat}{m:MM}{T:nD X.K}
def iY(i:Nat)(x:V8)(fs:Fes)(m:MM):En->S2->Option (D×S2):=λenv g=>if pV env i x=true then(fs env).bind λds=>m x ds g else none
theorem rj(i:Nat)(Q:Na X.prog X.w X.K X.mg X.base k C cn ons mn n m)(hr:bo k X.A)(hl:PL X (l::es) fs)(hn:(l::es).length=n:=by rfl)(hmn:mn∉cn++ons:=by decide)
  (hN:X.N[i]?=some y:=by rfl) (hv:qP X.env.scope y:=by first | exact Or.inl rfl | exact Or.inr (Or.inl rfl) | exact Or.inr (Or.inr rfl)) (hd:(y==("__debug__":Str))=false:=by decide) (eM:(y==("__classdict__":Str))=false:=by decide)
  (hst:starEach (l::es) X.env=(false,eval l X.env)::starEach es X.env:=by rfl) (fL:(backTo pos (starEach es X.env)).any (·.1)=false:=by rfl) {pl:Sem Bool}
  (ht:eval (.Call (.Attribute (.Name y px) mn apos) (l::es) [] pos) X.env=(do
   let ov <- eval (.Name y px) X.env
   standAt apos.atName
   let (f,first) <- holding [ov] (getMethod ov mn pl)
   callWith pos f first (backTo pos (starEach (l::es) X.env)) (backToKw pos (keywordEach [] X.env))):=by rfl) :
  OS X (dY X.K C x dx cn ons as) (.Call (.Attribute (.Name y px) mn apos) (l::es) [] pos) (iY i x fs m):=by
 intro pins s σ H Q' I hq;obtain⟨env,B,Z,g,d,g',W,e,kk⟩:=hq;obtain⟨f,fd,ps,hm,F,hb⟩:=Q.ex;obtain⟨hi,e⟩:=uP e;obtain⟨ds,e1,e2⟩:=a_.mp e;obtain⟨yv,e3,e4⟩:=W.R.sl i _ (eT hi);cases(show yv=some (V.ref x)from e4);obtain⟨vs,ex,rv,lv⟩:=W.j.ex;refine E7 (cF hN hv hd eM) W.j.cl hm F hr hb .nil wF hl.p hst fL ht pins s σ H Q' I ⟨_,e3,x,dx,_,rfl,ex,xC hmn,env,B,Z,ds,W.R,e1,λus Z1 H1 x1 r1=>?_⟩;have W1:=W.ext x1;show Ny X.K C cn ons n m (.ref x::(us++[])) H1 Q' E0;rw[G_];refine⟨Z1,ds,us,x,dx,as,g,d,g',rfl,by rw[hl.l env ds e1];exact hn,x1.zh,r1,W1.j,e2,λv Z' H' x2 r2 j2=>?_⟩;obtain⟨x3,W3⟩:=W1.after2 (T:=dY X.K C x dx cn ons as) x2 j2;exact kk v Z' H' ((x1.part W.R.bh).transB x3) r2 W3
variable {fw:En->T.S->Option (D×T.S)}
def vL{S:Type}(i:Nat)(f:En->S->Option (D×S)):iL S:=λenv g=>(f env g).bind λp=>some (.nx (env.set i (.F p.1)),p.2)
theorem BE(i:Nat)(he:OS X T e fw)(hN:X.N.Nodup)(hi:X.N[i]?=some y:=by rfl)(hx:Loc X.env.scope y:=by first | exact Or.inl rfl | exact Or.inr rfl)(hs:swapsWith e (some (.Name y pos')) pos.line X.env=pure false:=by rfl)
  (hf:X.fn y=true\/X.env.scope.names.lookup y=some .local:=by first | exact .inl rfl | exact .inr rfl | assumption):SW X T rg (.Assign [.Name y pos'] e pos) (vL i fw):=PS.imp (jY hN hi hx he hs hf) λE σ H hq=>by
 obtain⟨env,B,Z,g,o,g',W,e,k⟩:=hq;obtain⟨⟨d,g1⟩,e1,e2⟩:=a_.mp e;cases e2;exact⟨env,B,Z,g,d,_,W,e1,λv Z' H' x r W1=>k _ Z' H' x (W1.setF i r)⟩
def Fp{S:Type}(f:En->S->Option (D×S)):iL S:=λenv g=>(f env g).bind λp=>some (.nx env,p.2)
theorem HK(he:OS X T e fw)(hs:swapsWith e none pos.line X.env=pure false:=by rfl):SW X T rg (.Expr e pos) (Fp fw):=PS.imp (fR he hs) λE σ H hq=>by
 obtain⟨env,B,Z,g,o,g',W,e,k⟩:=hq;obtain⟨⟨d,g1⟩,e1,e2⟩:=a_.mp e;cases e2;exact⟨env,B,Z,g,d,_,W,e1,λv Z' H' x r W1=>k _ Z' H' x W1⟩
end
def OK(K:Fg)(C:V8)(cn ons:VS)(n:Nat)(m:Wf->Option S2):Sp:=λvs H Q _=>∃Z ds us x dx g,vs=.ref x::us/\ds.length=n/\aD Z H/\ai K Z ds us/\Z x=none/\Z dx=none/\dx≠x/\H x=some (.ins C dx [])/\H dx=some (.own x)/\m ds=some g/\
 ∀as Z' H',Ex Z (eI H [x,dx]) Z' H'->(∀b∈as,eI H [x,dx] b=none)->JP K C x dx cn ons as g Z' H'->Q .non H'
def Q6(K:Fg)(C x dx:V8)(cn ons:VS)(as:VT)(cnF onsF:VS)(f:En->S2->Option S2):TS:=λE σ H=>∃env B Z g g',Wr (dY K C x dx cn ons as) B Z H env σ g/\f env g=some g'/\
 ∀σ' Z' H' Du,Ex Z B Z' H'->(∀b∈Du,B b=none)->JP K C x dx cnF onsF Du g' Z' H'->E.nx σ' H'
def Kd(X:Cx)(C x dx:V8)(cn ons:VS)(as:VT)(cnF onsF:VS)(lA:VV)(f:En->S2->Option S2):Prop:=iG X lA (Q6 X.K C x dx cn ons as cnF onsF f)
section
variable {X:Cx}{C x dx:V8}{cn ons cnF onsF:VS}{as:VT}{y f:Str}{px fpos pos:Pos}{e:V9}{lA:VV}{fe:Fe}{fr:En->S2->Option S2}
theorem Mr:Kd X C x dx cn ons as cn ons [] (λ_ g=>some g):=iG.imp w8 λE σ H hq=>by
 obtain⟨env,B,Z,g,g',W,e,k⟩:=hq;cases e;exact k σ Z H as ⟨W.R.bh,aD.refl _,W.R.zh,λ_ _ h=>h,λ_ _ _ h=>h⟩ (λb hb=>W.b b (d_ _ (d_ _ hb))) W.j
def Ke(i:Nat)(x:V8)(fe:Fe)(fr:En->S2->Option S2):En->S2->Option S2:=λenv g=>if pV env i x=true then(fe env).bind λd=>fr env (g.1++[d],g.2)else none
theorem G9(i:Nat)(he:PD X .cl e fe)(Nb:dX X.K C f)(h:Kd X C x dx (cn++[f]) [] [] cnF onsF lA fr)(hf:f∉cn:=by decide)(hz:cn.length<1000:=by decide)(hN:X.N[i]?=some y:=by rfl)(hv:qP X.env.scope y:=by first | exact Or.inl rfl | exact Or.inr (Or.inl rfl) | exact Or.inr (Or.inr rfl))
  (hd:(y==("__debug__":Str))=false:=by decide) (eM:(y==("__classdict__":Str))=false:=by decide) (hs:swapsWith e (some (.Attribute (.Name y px) f fpos)) pos.line X.env=pure false:=by rfl) :
  Kd X C x dx cn [] [] cnF onsF (.Assign [.Attribute (.Name y px) f fpos] e pos::lA) (Ke i x fe fr):=iG.imp (er (Cr (cF hN hv hd eM) he hs) h) λE σ H hq=>by
 obtain⟨env,B,Z,g,g',W,e,k⟩:=hq;obtain⟨hi,e⟩:=uP e;obtain⟨d,e1,e2⟩:=a_.mp e;refine⟨env,B,Z,d,W.R,e1,λv Z1 H1 x1 r1=>?_⟩;have W1:=W.ext x1;obtain⟨yv,e3,e4⟩:=W1.R.sl i _ (eT hi);cases(show yv=some (V.ref x)from e4);obtain⟨vs,ex,rv,lv⟩:=W1.j.ex;rw[G_,TV,G_]at ex;refine⟨_,e3,x,C,dx,_,rfl,ex,W1.j.cl,Nb,by rw[U2,lv,U9];exact hz,?_⟩;rw[qO lv hf];have hnd:=W1.j.nd;have PU:dx≠x:=λz=>(I_.mp hnd).1 (by rw[z];exact f_);have ow:g.2=[]:=W1.j.ow;obtain⟨x2,W2⟩:Ex Z1 B Z1 (upd H1 x (.ins C dx ((cn++[f]).zip (vs++[v]))))/\Wr (dY X.K C x dx (cn++[f]) [] []) B Z1 (upd H1 x (.ins C dx ((cn++[f]).zip (vs++[v])))) env σ (g.1++[d],g.2):=by
  have j2:JP X.K C x dx (cn++[f]) [] [] (g.1++[d],g.2) Z1 (upd H1 x (.ins C dx ((cn++[f]).zip (vs++[v])))):=
   ⟨⟨vs++[v],by rw[G_,TV,G_];exact av,rv.app (ai.one r1),by rw[h_,h_,lv];rfl⟩,by rw[au PU];exact W1.j.dn,ow,W1.j.z,hnd,W1.j.la,W1.j.cl,λn hn=>by
    rw[G_]at hn;rcases O_.mp hn with z | z
    .exact W1.j.na n (Ud _ z)
    .rw[k_.mp z];exact Nb⟩
  have W1':Wr (dY X.K C x dx (cn++[f]) [] []) B Z1 (upd H1 x (.ins C dx ((cn++[f]).zip (vs++[v])))) env σ (g.1++[d],g.2):=by
   have R1:=W1.R;refine⟨⟨λb o eb=>?_,bU R1.zh (W1.j.z x f_),R1.len,λj s hj=>?_,R1.ob,R1.ap⟩,j2,W1.b,W1.no⟩
   .rw[au λz=>by rw[z,W1.b x f_]at eb;cases eb];exact R1.bh b o eb
   .obtain⟨u,q1,q2⟩:=R1.sl j s hj;refine⟨u,q1,?_⟩;cases s with
    | un=>trivial
    | F d=>exact q2
    | A c=>exact q2
    | O ow=>
     obtain⟨c,o,q3,q4,q5⟩:=q2;subst q3;exact⟨c,o,rfl,by rw[au λz=>W1.no j ow c hj q1 (by rw[z];exact f_)];exact q4,q5⟩
  exact⟨⟨W1'.R.bh,aD.refl _,W1'.R.zh,λ_ _ h=>h,λ_ _ _ h=>h⟩,W1'⟩
 exact⟨env,B,Z1,_,g',W2,e2,λσ' Z' H' Du x3 hb j=>k σ' Z' H' Du (((x1.part W.R.bh).transB x2).transB x3) hb j⟩
def Lo(i:Nat)(x:V8)(fe:Fe)(fr:En->S2->Option S2):En->S2->Option S2:=λenv g=>if pV env i x=true then(fe env).bind λd=>match d with
 | .lst ds=>fr env (g.1,g.2++[ds])
 | _=>none
 else none
theorem Lq(i:Nat)(he:PD X .nw e fe)(Nb:dX X.K C f)(h:∀a,Kd X C x dx cn (ons++[f]) (as++[a]) cnF onsF lA fr)(hf:f∉cn++ons:=by decide)(hz:(cn++ons).length<1000:=by decide)(hN:X.N[i]?=some y:=by rfl)(hv:qP X.env.scope y:=by first | exact Or.inl rfl | exact Or.inr (Or.inl rfl) | exact Or.inr (Or.inr rfl))
  (hd:(y==("__debug__":Str))=false:=by decide) (eM:(y==("__classdict__":Str))=false:=by decide) (hs:swapsWith e (some (.Attribute (.Name y px) f fpos)) pos.line X.env=pure false:=by rfl) :
  Kd X C x dx cn ons as cnF onsF (.Assign [.Attribute (.Name y px) f fpos] e pos::lA) (Lo i x fe fr):=by
 refine iG.imp (er (Cr (cF hN hv hd eM) he hs) (show iG X lA (λE σ H=>∃a,Q6 X.K C x dx cn (ons++[f]) (as++[a]) cnF onsF fr E σ H)from λpins s σ H E I ⟨a,hq⟩=>h a pins s σ H E I hq)) λE σ H hq=>?_;obtain⟨env,B,Z,g,g',W,e,k⟩:=hq;obtain⟨hi,e⟩:=uP e;obtain⟨d,e1,e2⟩:=a_.mp e;cases d<;>try cases e2
 rename_i ds;refine⟨env,B,Z,.lst ds,W.R,e1,λv Z1 H1 x1 r1=>?_⟩;obtain⟨a,us,Jy,rfl,e5,h1,h2,h3,r⟩:=r1;cases e5;have W1:=W.ext x1;obtain⟨yv,e3,e4⟩:=W1.R.sl i _ (eT hi);cases(show yv=some (V.ref x)from e4);obtain⟨vs,ex,rv,lv⟩:=W1.j.ex;have lz:(vs++as.map V.ref).length=(cn++ons).length:=by rw[h_,h_,lv,c_,W1.j.la]
 refine⟨_,e3,x,C,dx,_,rfl,ex,W1.j.cl,Nb,by rw[U2,lz,U9];exact hz,a,?_⟩;rw[qO lz hf];have hnd:=W1.j.nd;have PU:dx≠x:=λz=>(I_.mp hnd).1 (by rw[z];exact f_);have hnew:a∉x::dx::as:=λz=>(dY X.K C x dx cn ons as).nh W.j a z h1;have hax:a≠x:=λz=>hnew (by rw[z];exact f_);have hxas:x∉as:=λz=>(I_.mp hnd).1 (d_ _ z);have eq1:(cn++ons)++[f]=cn++(ons++[f]):=Su _ _ _;have eq2:(vs++as.map V.ref)++[V.ref a]=vs++(as++[a]).map V.ref:=by rw[Su,Sg];rfl
 rw[eq1,eq2];have j2:JP X.K C x dx cn (ons++[f]) (as++[a]) (g.1,g.2++[ds]) Z1 (upd H1 x (.ins C dx ((cn++(ons++[f])).zip (vs++(as++[a]).map V.ref)))):=by
  refine⟨⟨vs,av,rv,lv⟩,by rw[au PU];exact W1.j.dn,jo.app r (by rw[au hax];exact h2) (W1.j.ow.mono (aD.refl _) λb hb=>au λz=>hxas (by rw[<- z];exact hb)),λb hb=>?_,?_,by rw[h_,h_,W1.j.la];rfl,W1.j.cl,λn hn=>?_⟩
  .rw[<- Sw,<- Sw]at hb;rcases O_.mp hb with z | z
   .exact W1.j.z b z
   .rw[k_.mp z];exact h3
  .rw[<- Sw,<- Sw];exact S1.mpr ⟨hnd,I_.mpr ⟨by simp,S5⟩,λb hb c hc z=>hnew (by rw[<- k_.mp hc,<- z];exact hb)⟩
  .rw[<- eq1]at hn;rcases O_.mp hn with z | z
   .exact W1.j.na n z
   .rw[k_.mp z];exact Nb
 have R1:=W1.R;have W2:Wr (dY X.K C x dx cn (ons++[f]) (as++[a])) B Z1 (upd H1 x (.ins C dx ((cn++(ons++[f])).zip (vs++(as++[a]).map V.ref)))) env σ (g.1,g.2++[ds]):=by
  refine⟨⟨λb o eb=>?_,bU R1.zh (W1.j.z x f_),R1.len,λj s hj=>?_,R1.ob,R1.ap⟩,j2,λb hb=>?_,λj w c hj hc hm=>?_⟩
  .rw[au λz=>by rw[z,W1.b x f_]at eb;cases eb];exact R1.bh b o eb
  .obtain⟨u,q1,q2⟩:=R1.sl j s hj;refine⟨u,q1,?_⟩;cases s with
   | un=>trivial
   | F d=>exact q2
   | A c=>exact q2
   | O ow=>
    obtain⟨c,o,q3,q4,q5⟩:=q2;subst q3;exact⟨c,o,rfl,by rw[au λz=>W1.no j ow c hj q1 (by rw[z];exact f_)];exact q4,q5⟩
  .have jl:b∈(x::dx::as)++[a]:=hb;rcases O_.mp jl with z | z
   .exact W1.b b z
   .rw[k_.mp z];exact W.R.bh.free h1
  .have ot:c∈(x::dx::as)++[a]:=hm;rcases O_.mp ot with z | z
   .exact W1.no j w c hj hc z
   .rw[k_.mp z]at hc;obtain⟨u,q1,b,o,q3,q4,_⟩:=W.R.sl j _ hj;rw[hc]at q1;cases q1;cases q3;rw[h1]at q4;cases q4
 exact⟨env,B,Z1,_,g',W2,e2,λσ' Z' H' Du x3 hb j=>k σ' Z' H' Du (((x1.part W.R.bh).transB ⟨W2.R.bh,aD.refl _,W2.R.zh,λ_ _ h=>h,λ_ _ _ h=>h⟩).transB x3) hb j⟩
end
open Classical in
noncomputable def nN{α:Type}(h:V8->Option α):Option α:=if q:∃g,∀x,h x=some g then some (Classical.choose q)else none
theorem iD{h:V8->Option α}(e:nN h=some g)(x:V8):h x=some g:=by
 unfold nN at e
 split at e
 .rename_i q;cases e;exact Classical.choose_spec q x
 .cases e
theorem rC{h:V8->Option α}(q:∀x,h x=some g):nN h=some g:=by
 have q':∃g,∀x,h x=some g:=⟨g,q⟩;unfold nN;rw[dif_pos q'];have:=Classical.choose_spec q' 0;rw[q 0]at this;rw[Option.some.inj this]
noncomputable def Fd(fb:V8->En->S2->Option S2)(n:Nat)(ds:Wf):Option S2:=nN λx=>fb x (startM n x ds) ([],[])
section
variable {P:V2}{w:V5}{K:Fg}{mg:VL}{base:V4}{C:V8}{cn ons:VS}
structure Nd(P:Program)(w:World)(K:Fg)(mg:Str->Option Value)(base:Heap)(k:Nat)(C:Addr)(cn ons:List Str)(x:Str)(n:Nat)(m:List D->Option S2):Prop where
 ex:∃f fd ps,mg x=some (.ref C)/\Mk K C f/\dM P w K mg base jk k f fd ps (OK K C cn ons n m)/\Binds K fd ps []
end
section
variable {K:Fg}{B Z H:Hp}{env:En}{σ:L2.St}
theorem Rl.setA(R:Rl K B Z H env σ)(i:Nat)(x:V8):Rl K B Z H (env.set i (.A x)) (σ.set i (some (.ref x))):=by
 have zJ:∀{j:Nat}{ds:ox},(env.set i (.A x))[j]?=some (.O ds)->i≠j:=λ{j ds} h z=>by
  subst z
  by_cases hl:i<env.length
  .rw[A_ hl]at h;cases h
  .rw[So (by simpa using Ss hl)]at h;cases h
 refine⟨R.bh,R.zh,by simp[R.len],λj s h=>?_,λj ds a h h2=>?_,λj k ds es a hne h1 h2 h3 h4=>?_⟩
 .by_cases hj:i=j
  .subst hj
   by_cases hl:i<env.length
   .rw[A_ hl]at h;cases h;exact⟨_,A_ (by rw[<- R.len];exact hl),rfl⟩
   .rw[So (by simpa using Ss hl)]at h;cases h
  .rw[n_ hj]at h ⊢;exact R.sl j s h
 .have n:=zJ h;rw[n_ n]at h h2;exact R.ob j ds a h h2
 .have n1:=zJ h1;have n2:=zJ h2;rw[n_ n1]at h1 h3;rw[n_ n2]at h2 h4;exact R.ap j k ds es a hne h1 h2 h3 h4
end
def Ou:Option (Out×S2)->Wg
 | some (.rt d,_)=>some d
 | _=>none
noncomputable def Jf(i:Nat)(fs:Fes)(m:Wf->Option S2)(fb:V8->iL S2):Fs:=λenv=>(fs env).bind λds=>(m ds).bind λg=>(nN λx=>Ou (fb x (env.set i (.A x)) g)).map .rt
theorem Ib{X:Cx}{rg:Gr}{C:V8}{cn ons:VS}{y nm:Str}{p pos pos' pos2:Pos}{l:V9}{es:VU}{fs:Fes}{k n:Nat}{m:Wf->Option S2}{lA:VV}{fb:V8->iL S2}
  (i:Nat) (Q:Nd X.prog X.w X.K X.mg X.base k C cn ons nm n m) (hr:bo (k+1) X.A) (hl:PL X (l::es) fs) (De:∀x dx as,zP X (dY X.K C x dx cn ons as) rg lA (fb x)) (hN:X.N.Nodup) (hn:(l::es).length=n:=by rfl)
  (hi:X.N[i]?=some y:=by rfl) (hx:Loc X.env.scope y:=by first | exact Or.inl rfl | exact Or.inr rfl) (hs:swapsWith (.Call (.Name nm p) (l::es) [] pos2) (some (.Name y pos')) pos.line X.env=pure false:=by rfl)
  (hf:X.fn y=true\/X.env.scope.names.lookup y=some .local:=by first | exact .inl rfl | exact .inr rfl | assumption) (hg:Gl X nm:=by rfl) (nC:(nm==("__debug__":Str))=false:=by decide)
  (he:starEach (l::es) X.env=(false,eval l X.env)::starEach es X.env:=by rfl) (fL:(backTo pos2 (starEach es X.env)).any (·.1)=false:=by rfl) :
  tm X rg (.Assign [.Name y pos'] (.Call (.Name nm p) (l::es) [] pos2) pos::lA) (Jf i fs m fb):=by
 obtain⟨f,fd,ps,hm,M,F,hb⟩:=Q.ex;refine iG.imp (er (jY hN hi hx (D3 M F hr hg hm hb .nil wF hl.p nC he fL) hs hf) (show iG X lA (λE σ H=>∃x dx as,KQ (dY X.K C x dx cn ons as) rg (fb x) E σ H)from λpins s σ H E I ⟨x,dx,as,hq⟩=>De x dx as pins s σ H E I hq)) λE σ H hq=>?_;obtain⟨env,B,Z,o,R,e,kk⟩:=hq;obtain⟨ds,e1,e⟩:=a_.mp e;obtain⟨g,e2,e⟩:=a_.mp e;obtain⟨d,e3,e⟩:=K_.mp e;cases e;refine⟨env,B,Z,ds,R,e1,λus Z1 H1 x1 r1=>λx dx h1 h2 hne=>?_⟩;show OK X.K C cn ons n m (.ref x::(us++[])) _ _ E0;rw[G_];have R1:=R.ext x1;have s2:aD Z1 (upd (upd H1 dx (.own x)) x (.ins C dx [])):=bU (bU R1.zh (R1.zh.free h2)) (R1.zh.free h1);refine⟨Z1,ds,us,x,dx,g,rfl,by rw[hl.l env ds e1];exact hn,s2,r1,R1.zh.free h1,R1.zh.free h2,hne,av,by rw[au hne];exact av,e2,λas Z' H' x2 hb j=>⟨rfl,?_⟩⟩;have sb:aD H1 (eI (upd (upd H1 dx (.own x)) x (.ins C dx [])) [x,dx]):=λb o eb=>by
  have n1:b≠x:=λz=>by rw[z,h1]at eb;cases eb
  have n2:b≠dx:=λz=>by rw[z,h2]at eb;cases eb
  rw[bJ λz=>by rcases o_.mp z with z | z;exact n1 z;exact n2 (k_.mp z),au n1,au n2];exact eb
 have x3:Ex Z1 H1 Z' H':=x2.part sb;have R2:=R1.ext x3;have hq:=iD e3 x;have Rx:∀b∈x::dx::as,H1 b=none:=λb jl=>by
  rcases o_.mp jl with z | jl
  .rw[z];exact h1
  rcases o_.mp jl with z | jl
  .rw[z];exact h2
  .have n1:b≠x:=λz=>(I_.mp j.nd).1 (by rw[<- z];exact d_ _ jl);have n2:b≠dx:=λz=>(I_.mp (I_.mp j.nd).2).1 (by rw[<- z];exact jl);have:=hb b jl;rw[bJ λz=>by rcases o_.mp z with z | z;exact n1 z;exact n2 (k_.mp z),au n1,au n2]at this;exact this
 have W:Wr (dY X.K C x dx cn ons as) B Z' H' (env.set i (.A x)) (σ.set i (some (.ref x))) g:=by
  refine⟨R2.setA i x,j,λb jl=>R1.bh.free (Rx b jl),λq w c h3 h4 hm=>?_⟩;have hj:i≠q:=λz=>by
   subst z
   by_cases CW:i<env.length
   .rw[A_ CW]at h3;cases h3
   .rw[So (by simpa using Ss CW)]at h3;cases h3
  rw[n_ hj]at h3 h4;obtain⟨u,q1,b,o,q3,q4,_⟩:=R1.sl q _ h3;rw[h4]at q1;cases q1;cases q3;rw[Rx _ hm]at q4;cases q4
 cases JR:fb x (env.set i (.A x)) g with
 | none=>rw[JR]at hq;cases hq
 | some p=>
  obtain⟨o,g'⟩:=p;rw[JR]at hq;cases o<;>try cases hq
  exact⟨x,dx,as,_,B,Z',g,_,g',W,JR,λv Z2 H2 x4 gd _=>kk v Z2 H2 (((x1.trans x3).part R.bh).transB x4) gd⟩
structure N'(K:Fg)(a:Addr)(B Z H:Hp)(ds:List D)(vs:List V):Prop where
 ex:∃as ls,vs=as.map .ref/\ds=ls.map .lst/\jo K Z H as ls/\(∀b∈as,Z b=none/\B b=none)/\(a::as).Nodup
theorem N'.mon{K:Fg}{a:V8}{B Z H Z' H':Hp}{ds:Wf}{vs:Wh}(h:N' K a B Z H ds vs)(x:Ex Z H Z' H'):N' K a B Z' H' ds vs:=by
 obtain⟨as,ls,e1,e2,o,n,nd⟩:=h.ex;exact⟨as,ls,e1,e2,o.mono x.z λb hb=>jO x.h (let ⟨us,e⟩:=o.at hb;by rw[e];simp),λb hb=>⟨x.fr b (let ⟨us,e⟩:=o.at hb;by rw[e];simp) (n b hb).1,(n b hb).2⟩,nd⟩
theorem El{ks:Wb}{q:Key}(h:(w6 ks q).length=ks.length+1):q∉ks:=λz=>by
 unfold w6 at h;rw[i_ z]at h;exact absurd h (w_ (Ui _))
theorem pW{ks:Wb}{xs:List α}{q:Key}{u:α}(h:q∉ks):pdI ks xs q u=xs++[u]:=by
 unfold pdI;rw[j_ h]
abbrev NG(K:Fg)(w:V5)(a:V8):Qa:=λB Z H pre=>∃m ob vs,dW ([],[]) pre=some m/\m.1.length<=pre.length/\H a=some (.ext (iN a ob))/\Es (hashStr w) ob a m.1 vs/\(m.1.length=pre.length->N' K a B Z H m.2 vs)
theorem IM{K:Fg}{w:V5}{a:V8}:C' a (NG K w a):=⟨λ⟨_,_,_,_,_,h,_⟩ z=>(by rw[z]at h;cases h),λx ⟨m,ob,vs,h1,h2,h3,h4,h5⟩=>⟨m,ob,vs,h1,h2,x.h _ _ h3,h4,λz=>(h5 z).mon x⟩⟩
section
variable {X:Cx}{a:V8}{kx vx:V9}{fk fv:Fe}
theorem v5(hx:∀e s,¬X.xe e s)(h:PD X .cl kx fk)(h':PD X .nw vx fv):u5 X (NG X.K X.w a) a (Ai X a kx vx) (kj fk fv):=by
 intro pins s σ H B Z env pre xs P E A e hl hP;refine cT λ_ kq=>?_;obtain⟨k,e1,e⟩:=a_.mp e;obtain⟨v,e2,e⟩:=a_.mp e;obtain⟨q,e3,e⟩:=a_.mp e;cases e;obtain⟨m,ob,vs,hm,NT,hv,Oa,rr⟩:=A.ac;refine kq (b_ (Sx (h pins s σ H _ A.I ⟨env,B,Z,k,A.R,e1,λv Z1 H1 x1 g1=>(show ∃Z1,Ex Z H Z1 H1/\Rep X.K Z1 k v from⟨Z1,x1,g1⟩)⟩) (λu s1 az=>?_) λe s z=>(hx e s z).elim))
 all_goals clear kq
 obtain⟨y,H1,I1,r1,Z1,x1,g1⟩:=az;refine b_ (L_ (Sx (h' pins s1 σ H1 _ I1 ⟨env,B,Z1,v,A.R.ext x1,e2,λw Z2 H2 x2 g2=>(show ∃Z2,Ex Z1 H1 Z2 H2/\Gd X.K Z2 H1 H2 .nw v w from⟨Z2,x2,g2⟩)⟩) (λu2 s2 az=>?_) λe s z=>(hx e s z).elim));refine cT λ_ kq=>?_;obtain⟨w,H2,I2,r2,Z2,x2,g2⟩:=az;have x0:=x1.trans x2;have hne:H a≠none:=by rw[hv];simp
 have hv2:=x0.h _ _ hv;have hz2:=x0.fr a hne A.hz;have R2:=A.R.ext x0;have ey:=qZ (show Gd X.K Z1 H H1 .cl k y from g1) e3;subst ey;obtain⟨us,N7,l1,dd,wc⟩:=Gs I2 hv2 Oa;refine kq (b_ (SI (L_ ?_)))
 all_goals clear kq
 refine wpAny_dictSet_pairs (hsz:=by rw[U2,l1,U9,Sr];simp at hl;lia) (BI r1) dd λh2 dd' hs'=>?_;rw[zd q u2 l1]at dd';obtain⟨Kt,g3,g4⟩:=Heap.dictOf_iff.mp dd';have hkl:=EH m.1 q;have nF:Es (hashStr X.w) Kt a (w6 m.1 q) (pdI m.1 vs q w):=⟨wc,by simp at hl;lia,Fm (by rw[aw.length N7];exact l1),X.prog,X.w,_,rfl,aw.pdI r2 N7,g4⟩;have I3:=I2.write (t':=s2.toks+1) (o:=.ext (iN a Kt)) (by rw[hv2];exact True.intro) (.inl rfl) (λb u hb z=>(hs'.2 b hb).trans z) ⟨Kt,g3⟩ ⟨g3,⟨Kt,g3⟩,kn _ _⟩;refine hP _ σ _ Z2 ⟨I3,R2.other A.hb hz2 A.nO,A.nO,A.hb,hz2,kO m q v,Kt,_,lW hm e3,?_,av,nF,λhz=>?_⟩ ⟨bU R2.bh A.hb,x0.z,bU R2.zh hz2,λb hb e=>x0.fr b (fY A.R.bh hb) e,x0.nf⟩
 .show(w6 m.1 q).length<=_;simp;lia
 .have Ry:(w6 m.1 q).length=(pre++[D.tup [k,v]]).length:=hz;rw[h_]at Ry;have hz1:(w6 m.1 q).length=pre.length+1:=Ry;have Ng:m.1.length=pre.length:=by lia
  have hq:q∉m.1:=El (by rw[hz1,Ng]);obtain⟨b,Dx,r8,eb,ed,n1,n2,n3,rb⟩:=g2;subst eb ed;obtain⟨as,ls,ea,el,ow,nn,nd⟩:=(rr Ng).ex;have JD:∀c∈as,H c≠none:=λc hc=>let ⟨us,e⟩:=ow.at hc;by rw[e];simp
  have MS:H b=none:=x1.h.free n1;have FW:b≠a:=λz=>hne (by rw[<- z];exact MS);have hal:a∉as:=(I_.mp nd).1;have ow2:jo X.K Z2 (upd H2 a (.ext (iN a Kt))) as ls:=ow.mono x0.z λc hc=>by
   rw[au λz=>hal (by rw[<- z];exact hc)];exact jO x0.h (JD c hc)
  refine⟨as++[b],ls++[r8],?_,?_,jo.app rb (by rw[au FW];exact n2) ow2,λc hc=>?_,?_⟩
  .rw[pW hq,ea,Sg];rfl
  .show pdI m.1 m.2 q (D.lst r8)=_;rw[pW hq,el,Sg];rfl
  .rcases O_.mp hc with z | z
   .exact⟨x0.fr c (JD c z) (nn c z).1,(nn c z).2⟩
   .rw[k_.mp z];exact⟨n3,A.R.bh.free MS⟩
  .rw[<- Sw];refine S1.mpr ⟨nd,I_.mpr ⟨by simp,S5⟩,λc hc c' hc' z=>?_⟩;rw[k_.mp hc']at z;rcases o_.mp hc with y | y
   .exact FW (by rw[<- z,y])
   .exact JD c y (by rw[z];exact MS)
end
abbrev wW(X:Cx)(a:V8)(kx vx:V9)(gens:VO)(scope:V7)(pos:Pos)(d:Nat)(tg:V9)(ifs:VU)(t:Ft)(c:Fb)(k:Wc):Prop:=JF X (NG X.K X.w a) a (.DictComp kx vx gens scope pos) d tg ifs t c k
section
variable {X:Cx}{a:V8}{kx vx:V9}{gens:VO}{scope:V7}{pos:Pos}{d:Nat}{tg iter uI bT:V9}{ifs jP:VU}{t t':Ft}{c c':Fb}{k:Wc}{fe fk:Fe}{fi:Fi}{is:VW}
theorem vK(hx:∀e s,¬X.xe e s)(hg:GD X tg t)(zK:BJ X ifs c)(hk:PD X .cl kx fk)(he:PD X .nw vx fe)(h:gens[d]?=some ⟨tg,iter,ifs,0⟩:=by rfl)(h2:gens[d+1]?=none:=by rfl):wW X a kx vx gens scope pos d tg ifs t c (kj fk fe):=
 ⟨hg,zK,_,v5 hx hk he,λ_=>qk (m4 h h2)⟩
end
def EB:Wf->Option (List Wf)
 | []=>some []
 | .lst ds::r=>(EB r).map λls=>ds::ls
 | _::_=>none
theorem tw:∀(ls:List Wf),EB (ls.map .lst)=some ls
 | []=>rfl
 | l::ls=>by show(EB (ls.map .lst)).map _=_;rw[tw ls];rfl
structure PV(K:Fg)(th:Str->Int)(L:Addr)(ks:List Key)(as:List Addr)(ls:List (List D))(Z H:Hp):Prop where
 ex:∃ob,H L=some (.ext (iN L ob))/\Es th ob L ks (as.map .ref)
 ow:jo K Z H as ls
 z:∀b∈L::as,Z b=none
 nd:(L::as).Nodup
noncomputable def jV(fi:Fi)(is:VW)(t:Ft)(c:Fb)(k:Wc)(n:Nat)(caps:VW):En->Option (Wb×List Wf):=λenv=>(rA (λ_=>0) fi is t c k n caps env).bind λd=>match d with
 | .ix _ ks ds=>if ks.length=ds.length/\(dN t c k (bM n caps env) ((fi env).getD [])).map List.length=some ks.length then(EB ds).map λls=>(ks,ls)else none
 | _=>none
def Mv(K:Fg)(th:Str->Int)(fi:Fi)(is:VW)(t:Ft)(c:Fb)(k:Wc)(n:Nat)(caps:VW):TE:=λσ H Q=>∃env B Z ks ls,Rl K B Z H env σ/\jV fi is t c k n caps env=some (ks,ls)/\
 ∀L as Z' H',Ex Z H Z' H'->(∀b∈L::as,H b=none)->PV K th L ks as ls Z' H'->Q (.ref L) H'
section
variable {X:Cx}{kx vx:V9}{rest:VO}{scope:V7}{pos:Pos}{tg iter:V9}{ifs:VU}{t:Ft}{c:Fb}{k:Wc}{fi:Fi}{is caps:VW}{cl:VM}{Nc own:VS}
theorem uB(ht:kI is t)(bq:X.calm=true)(fo:fE (λx=>X.env.cells.lookup x) scope.names []=some cl)(bE:scope.kind=.function)(hnc:∀y∈scope.names,y.2≠.cell)
  (hN:Nc.map some=own.map some++caps.map (λj=>X.N[j]?)) (fj:g9 X scope caps=true)
  (hb:∀C s H ex pn a,wW (cS X scope cl Nc C s H ex pn) a kx vx (⟨tg,iter,ifs,0⟩::rest) scope pos 0 tg ifs t c k)
  {pins:VI} {σ:L2.St} {s2:V1} {H2 B Z2:Hp} {env:En} {ds xs:Wf} {E:VH} {RR:V0->V8->Result->V1->Prop} {it:V8} {fp:VT} {tn:Nat->V4->Prop} {J:It}
  (I2:Inv X pins σ H2 s2) (R2:Rl X.K B Z2 H2 env σ) (T:Turn X.prog X.w X.K tg J fp it tn) (uT:tn 0 s2.heap) (jR:∀b∈fp,bQ X pins H2 b) (wk:Walk X.K Z2 ds J) (hu:cf is (bM own.length caps env)=true)
  (uS:dN t c k (bM own.length caps env) ds=some xs) (hl:xs.length<=16000000)
  (MZ:∀(a C:V8)(H' Z':Hp)(s':V1)(mm:Wb×Wf)(ob:Obj)(vs:Wh) m,Inv X pins σ H' s'->s'.heap.Ns C m->bQ X pins H' C->Ex Z2 H2 Z' H'->H2 a=none->dW ([],[]) xs=some mm->H' a=some (.ext (iN a ob))->Z' a=none->Es (hashStr X.w) ob a mm.1 vs->(mm.1.length=xs.length->N' X.K a H2 Z' H' mm.2 vs)->RR (.ref a) C (.ok .next) s') :
  wpAny (model X.prog X.w) X.A (newDict) (λacc s₃=>wpAny (model X.prog X.w) X.A (newFunctionEnv scope X.env.globals cl [] X.env.qual none .none (some X.env)) (λDc s₄=>
   codeAny (model X.prog X.w) X.A (.compStart (.DictComp kx vx (⟨tg,iter,ifs,0⟩::rest) scope pos) 0 (.ref it) acc {Dc with scope:=relabel scope X.env}) (RR acc Dc.locals) s₄) E s₃) E s2:=by
 refine SH ?_;have hf:H2 s2.sz=none:=I2.hok.fresh (l_ _);have I3:Inv X pins σ (upd H2 s2.sz (.ext (iN s2.sz {cls:=.type "dict",data:=.dict #[]}))) {s2 with heap:=s2.heap.push {cls:=.type "dict",dict:=none,data:=.dict #[]}}:=
  I2.laid (λb u e=>e_ _ e) (l_ _) (show bp X.prog X.w _ _ _ (.ext (iN s2.sz {cls:=.type "dict",data:=.dict #[]}))from⟨p_ _ rfl,⟨_,p_ _ rfl⟩,kn _ _⟩)
 generalize zN:({s2 with heap:=s2.heap.push {cls:=.type "dict",dict:=none,data:=.dict #[]}}:V1)=s3 at I3 ⊢;have GR:∀b o,s2.heap.get? b=some o->s3.heap.get? b=some o:=λb o e=>by rw[<- zN];exact e_ _ e
 have GS:s3.sz=s2.sz+1:=by rw[<- zN];exact Ti _ _
 have hfl:∀b∈fp,b<s2.sz:=λb hb=>let ⟨o,e,_⟩:=T.obj _ _ uT b hb;r_ e;have GT:∀b∈fp,bQ X pins (upd H2 s2.sz (.ext (iN s2.sz {cls:=.type "dict",data:=.dict #[]}))) b:=λb hb=>⟨by rw[au (w_ (hfl b hb))];exact(jR b hb).1,(jR b hb).2⟩;refine Ue hnc (by intro y hy;simp at hy) (λh1 wg hsb=>?_) bE;have GU:∀b o,s3.heap.get? b=some o->h1.get? b=some o:=λb o e=>hsb.extBut b o (w_ (r_ e)) (e_ _ e);have I4:=mW (tk:=s3.toks+([]:List (Str×V0)).length) I3 fo bE hnc GT (λb hb=>by rw[GS];exact SO (hfl b hb)) hN fj wg GU;generalize hXc:cS X scope cl Nc s3.sz s3 (upd H2 s2.sz (.ext (iN s2.sz {cls:=.type "dict",data:=.dict #[]}))) fp (X.pn++pins)=Xc at I4;have bb:wW Xc s2.sz kx vx (⟨tg,iter,ifs,0⟩::rest) scope pos 0 tg ifs t c k:=by rw[<- hXc];exact hb _ _ _ _ _ _
 obtain⟨Bd,kJ,zL⟩:=bb.ex;have eP:Xc.prog=X.prog:=by rw[<- hXc];rfl
 have eW:Xc.w=X.w:=by rw[<- hXc];rfl
 have eK:Xc.K=X.K:=by rw[<- hXc];rfl
 have eA:Xc.A=X.A:=by rw[<- hXc];rfl
 have eE:Xc.env=compEnvC scope cl s3.sz X.env:=by rw[<- hXc];rfl
 have hx:∀e s,¬Xc.xe e s:=λe s z=>by rw[<- hXc]at z;exact z
 have zQ:Xc.calm=true:=by rw[<- hXc];exact bq
 have T':Turn Xc.prog Xc.w Xc.K tg J fp it tn:=by rw[eP,eW,eK];exact T
 have A4:Ac Xc (NG Xc.K Xc.w s2.sz) [] s2.sz H2 Z2 (upd H2 s2.sz (.ext (iN s2.sz {cls:=.type "dict",data:=.dict #[]}))) (bM own.length caps env) (ko own.length caps σ) [] {s3 with heap:=h1,toks:=s3.toks+([]:List (Str×V0)).length}:=
  ⟨I4,by rw[eK];exact R2.cap _ _ (dj hf) (bU R2.zh (R2.zh.free hf)),gQ _ _ _,hf,R2.zh.free hf,([],[]),_,[],rfl,l_ _,av,⟨by have:=I2.big;simpa using (VD this),by simp,rfl,X.prog,X.w,[],by rw[eW],.nil,#[],0,⟨rfl,rfl,rfl⟩,rfl,λe he=>by simp at he,.nil,by simp⟩,λ_=>⟨[],[],rfl,rfl,rfl,(λb hb=>by cases hb),I_.mpr ⟨by simp,S5⟩⟩⟩
 have M0:∀b∈fp,bQ Xc [] (upd H2 s2.sz (.ext (iN s2.sz {cls:=.type "dict",data:=.dict #[]}))) b:=λb hb=>by
  obtain⟨f1,f2,f3,f4,f5,f6⟩:=GT b hb;have mem:=eu fo (λp hp=>by cases hp);rw[<- hXc];refine⟨f1,?_,eg I3 f2 f3,.inl hb,λx c h=>f5 x c (mem (x,c) (Sl h)),λp hp=>f6 p (by simpa [cS]using hp)⟩;show b≠s3.sz;rw[GS];exact w_ (SO (hfl b hb))
 have GV:tn 0 ({s3 with heap:=h1,toks:=s3.toks+([]:List (Str×V0)).length}:V1).heap:=T.keep _ _ _ uT λb _ o e=>GU b o (GR b o e);have go:=iu Mh IM hx zQ T' bb.g ht bb.ts kJ (zL it) A4 M0 GV (by rw[eK];exact wk) hu uS (by simpa using hl) λs' σ' H' Z' A' x' fr'=>by
  obtain⟨m0,ob0,vs,NU,_,hv,M6,rr⟩:=A'.ac;rw[eW]at M6;have base:=A'.I.base;obtain⟨mC,GW,_⟩:=A'.I.loc;have hok:=A'.I.hok;have hos:=A'.I.os;have free:=A'.I.free;rw[eE]at GW free;rw[eP,eW]at hok;rw[eK]at rr;have u1:Un (rS X.stack) fp H2 (upd H2 s2.sz (.ext (iN s2.sz {cls:=.type "dict",data:=.dict #[]}))) s2.heap s3.heap:=Un.laid GR (l_ _) hf;have u2:Un (rS X.stack) fp (upd H2 s2.sz (.ext (iN s2.sz {cls:=.type "dict",data:=.dict #[]}))) H' s3.heap s'.heap:=by rw[<- hXc]at base;exact base
  have Dd:s'.os=s2.os:=by rw[<- hXc]at hos;exact hos.trans (by rw[<- zN];rfl)
  have I':Inv X pins σ H' s':=I2.call' Dd (u1.trans u2) hok A'.I.bare λb hb=>⟨(jR b hb).2.2.2.1,(jR b hb).2.1,(jR b hb).2.2.2.2.1,(jR b hb).2.2.2.2.2⟩;exact MZ s2.sz s3.sz H' Z' s' m0 ob0 vs mC I' GW (I3.fpOk (l_ _) free) x' hf (by simpa using NU) hv A'.hz M6 (by simpa using rr)
 rw[eP,eW,eA,eE]at go;exact lJ Mh rfl go (T.self _ 0 _ _ _ GV go)
theorem yP{y:Str}{py spos:Pos}(j:Nat)(ht:kI is t)(bq:X.calm=true)(hi:ID X tg iter fi)(fo:fE (λx=>X.env.cells.lookup x) scope.names []=some cl)(hN:Nc.map some=own.map some++caps.map (λj=>X.N[j]?))
  (hb:∀C s H ex pn a,wW (cS X scope cl Nc C s H ex pn) a kx vx (⟨tg,iter,ifs,0⟩::rest) scope pos 0 tg ifs t c k) (PC:X.N.Nodup) (hj:X.N[j]?=some y:=by rfl) (hy:Loc X.env.scope y:=by first | exact Or.inl rfl | exact Or.inr rfl)
  (M3:swapsWith (.DictComp kx vx (⟨tg,iter,ifs,0⟩::rest) scope pos) (some (.Name y py)) spos.line X.env=pure true:=by rfl) (hf:X.fn y=true\/X.env.scope.names.lookup y=some .local:=by first | exact .inl rfl | exact .inr rfl | assumption)
  (fj:g9 X scope caps=true:=by rfl) (bE:scope.kind=.function:=by rfl) (hnc:∀y∈scope.names,y.2≠.cell:=by decide +kernel) (JG:∀x∈scope.names,x.2=.local->scope.names.lookup x.1=some .local:=by decide +kernel)
  (hs:∀x,foldedSetIterable iter X.env x=pure x:=by intro _;rfl) :
  PS X (.Assign [.Name y py] (.DictComp kx vx (⟨tg,iter,ifs,0⟩::rest) scope pos) spos) (vE (Mv X.K (hashStr X.w) fi is t c k own.length caps) (lU j)):=by
 intro pins s σ H E I hT;obtain⟨env,B,Z,ks,ls,R,e,kk⟩:=hT;unfold jV at e;obtain⟨d,e0,e⟩:=a_.mp e;obtain⟨ds,xs,mm,e1,hu,uS,hl,NS,rfl⟩:=uj e0;obtain⟨⟨hk1,Ob⟩,e⟩:=uP e;obtain⟨Rz,RA,e⟩:=K_.mp e;cases e;rw[e1]at Ob;rw[show(some ds:We).getD []=ds from rfl,uS]at Ob;have hlen:mm.1.length=xs.length:=(Option.some.inj Ob).symm;rw[exec_Assign_Name_used _ _ _ _ M3];refine b_ (SI (b_ ?_));refine(show wpAny (model X.prog X.w) X.A (comprehension (.DictComp kx vx (⟨tg,iter,ifs,0⟩::rest) scope pos) scope X.env (firstIterPos (⟨tg,iter,ifs,0⟩::rest) pos) newDict false (eval iter X.env) (some (assign (.Name y py) X.env)) >>= λ_=>pure ()) _ _ s from ?_);refine b_ (bB (TF rfl hs (ej fo) bE JG ?_) λ_ s' hq=>g_ (g_ hq));refine bB (hi pins s σ H (λJ H1=>∃Z1,Ex Z H Z1 H1/\Walk X.K Z1 ds J) I ⟨env,B,Z,ds,R,e1,λJ Z1 H1 x1 wk=>⟨Z1,x1,wk⟩⟩) λx s1 q1=>bB q1 λKo s2 az=>?_;obtain⟨it,fp,tn,J,H2,hit,I2,T,uT,jR,Z2,x2,wk⟩:=az;subst hit;refine uB ht bq fo bE hnc hN fj hb I2 (R.ext x2) T uT jR wk hu uS hl λa C H' Z' s' m1 ob vs m I' ns fpC x' MF hm1 hv hz hp rr=>?_;rw[NS]at hm1;cases hm1;obtain⟨as,ls2,ea,el,ow,nn,nd⟩:=(rr hlen).ex;rw[el,tw]at RA;cases RA;subst ea;have RB:∀b∈a::as,H b=none:=λb jl=>by
  rcases o_.mp jl with z | z
  .rw[z];exact x2.h.free MF
  .exact x2.h.free (nn b z).2
 refine(show wpAny (model X.prog X.w) X.A (assign (.Name y py) X.env (.ref a)) _ _ s' from Vm (j9 I' PC hj hy (show RelV (.ref a) (.ref a)from rfl) (λs2' I2' az=>?_) hf));obtain⟨b,hsb,MP⟩:=az;obtain⟨f1,f2,f3,f4,f5,f6⟩:=fpC;have PF:C≠b:=λz=>by
  rcases MP with z2 | z2
  .exact f2 (z.trans z2)
  .exact f5 y b z2 z.symm
 refine⟨m,ns.sameBut hsb PF,λh' hs'=>?_⟩;exact⟨_,H',I2'.turned (λb o hb e=>hs'.extBut b o hb e) f1 f2 f4 f5 f6,kk a as Z' H' (x2.trans x') RB ⟨⟨ob,hv,hp⟩,ow,λb jl=>by
  rcases o_.mp jl with z | z
  .rw[z];exact hz
  .exact(nn b z).1,nd⟩⟩
end
def NK(K:Fg)(th:Str->Int)(L:V8)(ks:Wb)(as:VT):nD K where
 S:=List Wf
 fp:=L::as
 J:=PV K th L ks as
 nz:=λh=>h.z
 nh:=λh b hb=>by
  rcases o_.mp hb with z | hb
  .obtain⟨ob,e,_⟩:=h.ex;rw[z,e];simp
  .obtain⟨us,e⟩:=h.ow.at hb;rw[e];simp
 mono:=λh s hz hh=>by
  obtain⟨ob,e,r⟩:=h.ex;exact⟨⟨ob,by rw[hh _ f_];exact e,r⟩,h.ow.mono s λb hb=>hh b (d_ _ hb),hz,h.nd⟩
def yM:Wb->Key->Option Nat
 | [],_=>none
 | k::ks,q=>if k=q then some 0 else(yM ks q).map (·+1)
theorem sS:∀{ks:Wb}{xs:List α}{q:Key}{j:Nat}{x:α},yM ks q=some j->xs[j]?=some x->lookI ks xs q=some x
 | [],_,_,_,_,h,_=>by cases h
 | k::ks,[],_,_,_,_,e=>by simp at e
 | k::ks,y::xs,q,j,x,h,e=>by
  unfold yM at h;unfold lookI
  by_cases hk:k=q
  .rw[i_ hk]at h ⊢;cases h;simpa using e
  .rw[j_ hk]at h ⊢;obtain⟨j',h1,rfl⟩:=K_.mp h;exact sS h1 (by simpa using e)
section
variable {X:Cx}{rg:Gr}{th:Str->Int}{L:V8}{ks:Wb}{as:VT}{e ke:V9}{y:Str}{fe fk:Fe}{px apos spos bA pos:Pos}{gk:Gr}
def xu(i:Nat)(L:V8)(ks:Wb)(fk fe:Fe):iL (List Wf):=λenv ls=>if pV env i L=true then(fk env).bind λkd=>(tz kd).bind λq=>(fe env).bind λd=>(yM ks q).bind λj=>match ls[j]? with
 | some ds=>if ds.length<16000000 then some (.nx env,ls.set j (ds++[d]))else none
 | none=>none
 else none
theorem HI(i:Nat)(hw:th=hashStr X.w)(hk:PD X gk ke fk)(he:PD X .cl e fe)(Ks:x8 ke:=by intro _ _;rfl)(hN:X.N[i]?=some y:=by rfl)(hv:qP X.env.scope y:=by first | exact Or.inl rfl | exact Or.inr (Or.inl rfl) | exact Or.inr (Or.inr rfl))
  (hd:(y==("__debug__":Str))=false:=by decide) (eM:(y==("__classdict__":Str))=false:=by decide) (hst:starEach [e] X.env=[(false,eval e X.env)]:=by rfl)
  (fM:attributeBase (.Subscript (.Name y px) ke spos) "append" X.env (eval (.Subscript (.Name y px) ke spos) X.env)=eval (.Subscript (.Name y px) ke spos) X.env:=by rfl)
  (kG:((backTo bA (starEach [e] X.env)).all (λx=>!x.1)&&(backToKw bA (keywordEach [] X.env)).all (λx=>x.1.isSome)
   && decide (([e]:VU).length+([]:List Keyword).length+(if([]:List Keyword).isEmpty then 0 else 1)<30))=true:=by rfl)
  (fN:(apos.endLine==bA.line)=true:=by rfl)
  (hs:swapsWith (.Call (.Attribute (.Subscript (.Name y px) ke spos) "append" apos) [e] [] bA) none pos.line X.env=pure false:=by rfl) :
  SW X (NK X.K th L ks as) rg (.Expr (.Call (.Attribute (.Subscript (.Name y px) ke spos) "append" apos) [e] [] bA) pos) (xu i L ks fk fe):=by
 subst hw;refine PS.imp (fR (pG SY Uu Uv iw (wV (cF hN hv hd eM) hk Ks) (aY he cj hst) fM kG fN hst rfl) hs) λE σ H az=>?_;obtain⟨env,B,Z,g,o,g',W,e,kk⟩:=az;unfold xu at e;obtain⟨hi,e⟩:=uP e;obtain⟨kd,e1,e⟩:=a_.mp e;obtain⟨q,e2,e⟩:=a_.mp e;obtain⟨d,e3,e⟩:=a_.mp e;obtain⟨j,e4,e⟩:=a_.mp e
 split at e
 .rename_i ds hj;obtain⟨hl,e⟩:=uP e;cases e;obtain⟨yv,e5,e6⟩:=W.R.sl i _ (eT hi);cases(show yv=some (V.ref L)from e6);refine⟨_,e5,env,B,Z,kd,W.R,e1,λkv Z1 H1 x1 g1=>?_⟩;have W1:=W.ext x1;obtain⟨a,us,ea,hu,r⟩:=W1.j.ow.get hj;obtain⟨ob,ex,io⟩:=W1.j.ex;refine⟨L,ob,ks,as.map .ref,q,.ref a,rfl,ex,io,qZ g1 e2,sS e4 (by rw[u_,ea];rfl),.inl ⟨rfl,us,cW.of hu⟩,env,B,Z1,d,W1.R,e3,λv Z2 H2 x2 g2=>?_⟩;have W2:=W1.ext x2;have r1:=ai.mono x2.z ds r;have ha:=x2.h _ _ hu;refine⟨a,us,v,rfl,rfl,ha,by rw[<- r.len,Sr];lia,?_⟩;have hnd:=W2.j.nd;have GZ:a∈as:=F_ ea;have hLa:L≠a:=λz=>(I_.mp hnd).1 (by rw[z];exact GZ);obtain⟨ob2,ex2,io2⟩:=W2.j.ex;obtain⟨x3,W3⟩:=W2.put (a:=a) (o:=.lst (us++[v])) (g':=g.set j (ds++[d])) (d_ _ GZ)
   ⟨⟨ob2,by rw[au hLa];exact ex2,io2⟩,jo.put (r1.app (ai.one g2)) W2.j.ow (I_.mp hnd).2 ea,W2.j.z,hnd⟩
  exact kk σ Z2 _ (((x1.trans x2).part W.R.bh).transB x3) W3
 .cases e
end
theorem PV.frz{K:Fg}{th:Str->Int}{L:V8}{ks:Wb}{as:VT}{ls:List Wf}{B Z H:Hp}(j:PV K th L ks as ls Z H)(bh:aD B H)(zh:aD Z H)(b:∀x∈L::as,B x=none) :
  Ex Z B (lq (L::as) Z H) H/\Rep K (lq (L::as) Z H) (.ix th ks (ls.map .lst)) (.ref L):=by
 have s:aD Z (lq (L::as) Z H):=λb o e=>by
  rw[bN λhb=>by rw[j.z b hb]at e;cases e];exact e
 obtain⟨ob,ex,io⟩:=j.ex;refine⟨⟨bh,s,λc o e=>?_,λc hc hz=>?_,λc o u e=>?_⟩,L,ob,as.map .ref,rfl,by rw[cZ f_];exact ex,io,j.ow.reps s λc hc=>cZ (d_ _ hc)⟩
 .by_cases hb:c∈L::as
  .rw[cZ hb]at e;exact e
  .rw[bN hb]at e;exact zh c o e
 .rw[bN λz=>hc (b c z)];exact hz
 .by_cases hb:c∈L::as
  .rw[cZ hb]at e;rcases o_.mp hb with z | z
   .rw[z,ex]at e;cases e
   .obtain⟨us,e1⟩:=j.ow.at z;rw[e1]at e;cases e
  .rw[bN hb]at e;exact e
def Q3(th:Str->Int)(ks:Wb)(i:Nat)(L:V8):Option (Out×List Wf)->Wg
 | some (.nx env',ls)=>if pV env' i L=true then some (.ix th ks (ls.map .lst))else none
 | _=>none
noncomputable def newX(th:Str->Int)(i:Nat)(fc:En->Option (Wb×List Wf))(fb:V8->Wb->iL (List Wf)):Fs:=λenv=>(fc env).bind λp=>(nN λL=>Q3 th p.1 i L (fb L p.1 (env.set i (.A L)) p.2)).map .rt
theorem Ea{X:Cx}{y:Str}{p pos pos' rpos:Pos}{e:V9}{st:V_}{fi:Fi}{is caps:VW}{t:Ft}{c:Fb}{k:Wc}{n:Nat}{th:Str->Int}{fb:V8->Wb->iL (List Wf)}
  (i:Nat) (hw:th=hashStr X.w) (he:PS X (.Assign [.Name y pos'] e pos) (vE (Mv X.K (hashStr X.w) fi is t c k n caps) (lU i))) (hst:∀L ks as,SW X (NK X.K (hashStr X.w) L ks as) .cl st (fb L ks))
  (hi:X.N[i]?=some y:=by rfl) (hv:qP X.env.scope y:=by first | exact Or.inl rfl | exact Or.inr (Or.inl rfl) | exact Or.inr (Or.inr rfl))
  (hd:(y==("__debug__":Str))=false:=by decide) (eM:(y==("__classdict__":Str))=false:=by decide) :
  tm X .cl [.Assign [.Name y pos'] e pos,st,.Return (some (.Name y p)) rpos] (newX th i (jV fi is t c k n caps) fb):=by
 subst hw;refine iG.imp (er he (show iG X [st,.Return (some (.Name y p)) rpos] (λE σ H=>∃L ks as,Mq (KQ (NK X.K (hashStr X.w) L ks as) .cl (fb L ks)) (KY (Ln i)) E σ H)from λpins s σ H E I ⟨L,ks,as,hq⟩=>er (hst L ks as) (pX (mo (cF hi hv hd eM))) pins s σ H E I hq)) λE σ H hq=>?_;obtain⟨env,B,Z,o,R,e,kk⟩:=hq;obtain⟨⟨ks,ls⟩,e1,e⟩:=a_.mp e;obtain⟨d,e2,e⟩:=K_.mp e;cases e;refine⟨env,B,Z,ks,ls,R,e1,λL as Z1 H1 x1 hn j=>⟨L,ks,as,?_⟩⟩;have R1:=R.ext x1;have hq:=iD e2 L;have W:Wr (NK X.K (hashStr X.w) L ks as) B Z1 H1 (env.set i (.A L)) (σ.set i (some (.ref L))) ls:=by
  refine⟨R1.setA i L,j,λb jl=>R.bh.free (hn b jl),λq w c h3 h4 hm=>?_⟩;have hj:i≠q:=λz=>by
   subst z
   by_cases CW:i<env.length
   .rw[A_ CW]at h3;cases h3
   .rw[So (by simpa using Ss CW)]at h3;cases h3
  rw[n_ hj]at h3 h4;obtain⟨u,q1,b,o,q3,q4,_⟩:=R.sl q _ h3;rw[h4]at q1;cases q1;cases q3;rw[hn _ hm]at q4;cases q4
 cases JR:fb L ks (env.set i (.A L)) ls with
 | none=>rw[JR]at hq;cases hq
 | some pr=>
  obtain⟨o,Rz⟩:=pr;rw[JR]at hq;cases o<;>try cases hq
  rename_i env';obtain⟨ha,hq⟩:=uP (show(if pV env' i L=true then some (D.ix (hashStr X.w) ks (Rz.map .lst))else none)=some d from hq);cases hq;refine⟨_,B,Z1,ls,_,Rz,W,JR,λσ' Z' H' x2 W2=>?_⟩;obtain⟨yv,e5,e6⟩:=W2.R.sl i _ (eT ha);cases(show yv=some (V.ref L)from e6);obtain⟨x3,r3⟩:=W2.j.frz W2.R.bh W2.R.zh W2.b;exact⟨_,e5,kk _ _ H' (((x1.part R.bh).transB x2).transB x3) r3⟩
abbrev BM:=V8->Wf->Wf->Wf->Wg
def QX(K:Fg)(n1 n2:Nat)(m:BM):Sp:=λvs H Q _=>∃Z wj r8 FX Dx a us ls d,vs=FX++.ref a::Dx/\wj.length=n1/\r8.length=n2/\aD Z H/\ai K Z wj FX/\ai K Z r8 Dx/\Z a=none/\H a=some (.lst us)/\ai K Z ls us/\m a wj ls r8=some d/\
 ∀v Z' H',Ex Z H Z' H'->Rep K Z' d v->Q v H'
def startB(n:Nat)(a:V8)(wj r8:Wf):En:=wj.map .F++.A a::(r8.map .F++List.replicate (n-(wj.length+1+r8.length)) .un)
def FI(f:V8->iL Wf)(n:Nat):BM:=λa wj ls r8=>(f a (startB n a wj r8) ls).bind λp=>match p with
 | (.rt d,_)=>some d
 | _=>none
theorem Rl.startB{K:Fg}{Z H:Hp}{N:VS}{wj r8:Wf}{FX Dx:Wh}{a:V8}{fp:VT}(s:aD Z H)(r1:ai K Z wj FX)(r2:ai K Z r8 Dx)(hN:wj.length+1+r8.length<=N.length) :
  Rl K (eI H fp) Z H (Mi.startB N.length a wj r8) (L2.start N (FX++.ref a::Dx))/\∀(i:Nat)(es:ox),(Mi.startB N.length a wj r8)[i]?≠some (.O es):=by
 have l1:=r1.len;have l2:=r2.len;have no:∀(i:Nat)(es:ox),(Mi.startB N.length a wj r8)[i]?≠some (.O es):=λi es h=>by
  unfold Mi.startB at h;rcases O_.mp (F_ h)with z | z
  .obtain⟨d,_,z⟩:=E_.mp z;cases z
  rcases o_.mp z with z | z
  .cases z
  rcases O_.mp z with z | z
  .obtain⟨d,_,z⟩:=E_.mp z;cases z
  .cases(List.mem_replicate.mp z).2
 refine⟨⟨kh,s,?_,λi sl h=>?_,λi es a h=>absurd h (no i es),λi j es _ a _ h=>absurd h (no i es)⟩,no⟩
 .simp only[Mi.startB,L2.start,h_,c_,m_,Sy,<- l1,<- l2]
  lia
 .have g:L2.start N (FX++.ref a::Dx)=FX.map some++(some (V.ref a)::(Dx.map some++List.replicate (N.length-(wj.length+1+r8.length)) (none:Option V))):=by
   unfold L2.start;rw[Sg,B_,Su,Sw,h_,m_,<- l1,<- l2];rw[show wj.length+(r8.length+1)=wj.length+1+r8.length by lia]
  rw[g];unfold Mi.startB at h
  by_cases hi:i<wj.length
  .rw[D_ (by simpa using hi),u_]at h;obtain⟨d,hd,rfl⟩:=K_.mp h;obtain⟨v,hv,rv⟩:=r1.get hd;refine⟨some v,?_,v,rfl,rv⟩;rw[D_ (by rw[c_,<- l1];exact hi),u_,hv];rfl
  .rw[q_ (by simpa using hi)]at h;rw[q_ (by rw[c_,<- l1];exact Ss hi)];rw[c_]at h ⊢;rw[<- l1];generalize i-wj.length=j at h ⊢;cases j with
   | zero=>cases(show some (Slot.A a)=some sl from h);exact⟨_,rfl,rfl⟩
   | succ j=>
    have h':(r8.map Slot.F++List.replicate (N.length-(wj.length+1+r8.length)) Slot.un)[j]?=some sl:=h;show ∃x,(Dx.map some++List.replicate (N.length-(wj.length+1+r8.length)) (none:Option V))[j]?=some x/\_
    by_cases hj:j<r8.length
    .rw[D_ (by simpa using hj),u_]at h';obtain⟨d,hd,rfl⟩:=K_.mp h';obtain⟨v,hv,rv⟩:=r2.get hd;refine⟨some v,?_,v,rfl,rv⟩;rw[D_ (by rw[c_,<- l2];exact hj),u_,hv];rfl
    .rw[q_ (by simpa using hj)]at h';have h2:=h';rw[c_]at h2;have hn:j-r8.length<N.length-(wj.length+1+r8.length):=by
      have:=(s_.mp h2).1;rwa [Sy]at this
     rw[Sn,i_ hn]at h2;cases h2;refine⟨none,?_,trivial⟩;rw[q_ (by rw[c_,<- l2];exact Ss hj),c_,<- l2,Sn,i_ hn]
section
variable {P:V2}{w:V5}{K:Fg}{mg:VL}{base:V4}
theorem RX{x qual:Str}{st:V_}{f:V8}{fd:V6}{N ps:VS}{k n1 n2:Nat}{fb:V8->iL Wf}(F:xR K x qual st f fd)(S:bY N ps (aq st))(hp:ps.length=n1+1+n2)(hN:n1+1+n2<=N.length)
  (hb:∀(a:V8)(us:Wh)(bP:V0)(A:V3)(outer:List Env)(s:V1)(H:Hp)(E:XK),bo k (A.deeper (envOfC qual (aq st) s.sz f bP))->zP (gE jk P w K mg base N qual (aq st) f bP A outer s H E).nox (A2 K a us) .cl (aP st) (fb a)) :
  dM P w K mg base jk (k+1) f fd ps (QX K n1 n2 (FI fb N.length)):=by
 refine F.ok S (λvs H Q E hq=>?_) λbP A outer s H vs Q E hr hq=>?_
 .obtain⟨Z,wj,r8,FX,Dx,a,us,ls,d,rfl,h1,h2,_,r1,r2,_⟩:=hq;rw[h_,m_,<- r1.len,<- r2.len,h1,h2,hp];lia
 .obtain⟨Z,wj,r8,FX,Dx,a,us,ls,d,rfl,h1,h2,s1,r1,r2,z1,z2,z3,e,kk⟩:=hq;refine⟨_,hb a us bP A outer s H E hr,?_⟩;obtain⟨⟨o,g1⟩,e1,e2⟩:=a_.mp e;obtain⟨R,no⟩:=Rl.startB (a:=a) (fp:=[a]) s1 r1 r2 (N:=N) (by rw[h1,h2];exact hN);have W:Wr (A2 K a us) (eI H [a]) Z H (startB N.length a wj r8) (L2.start N (FX++.ref a::Dx)) ls:=⟨R,⟨z1,z2,z3⟩,λb hb=>eR hb,λi es b h=>absurd h (no i es)⟩;cases o with
  | rt d'=>
   cases e2;refine⟨_,_,Z,ls,_,_,W,e1,λv Z' H' x r j=>kk v Z' H' ⟨λb u eb=>?_,x.z,x.zh,λb hb hz=>?_,x.nf⟩ r⟩
   .by_cases FW:b=a
    .rw[FW,z2]at eb;cases eb;rw[FW];exact j.2.1
    .exact x.h b u (by rw[bJ λz=>FW (k_.mp z)];exact eb)
   .by_cases FW:b=a
    .rw[FW];exact j.1
    .exact x.fr b (by rw[bJ λz=>FW (k_.mp z)];exact hb) hz
  | nx _=>cases e2
  | bk _=>cases e2
  | ct _=>cases e2
structure Nh(P:Program)(w:World)(K:Fg)(mg:Str->Option Value)(base:Heap)(k:Nat)(x:Str)(n1 n2:Nat)(m:BM):Prop where
 ex:∃f fd ps,ps.length=n1+1+n2/\dM P w K mg base jk k f fd ps (QX K n1 n2 m)/\mg x=some (.ref f)/\PySem.W.keepIn K (.ref f)=true/\Binds K fd ps []
end
section
variable {X:Cx}{rg:Gr}{C x dx:V8}{cn ons:VS}{as:VT}{y f nm:Str}{p px fpos pos ipos:Pos}{e e1 e3:V9}{k:Nat}{m:BM}
theorem B4{vs:Wh}{a:V8}{j:Nat}(JQ:(cn++ons).Nodup)(hf:ons[j]?=some f)(ea:as[j]?=some a)(lv:vs.length=cn.length):((cn++ons).zip (vs++as.map V.ref)).lookup f=some (V.ref a):=by
 refine vP (j:=cn.length+j) JQ ?_ ?_
 .rw[q_ (UR _ _),TN];exact hf
 .rw[q_ (by rw[lv];exact UR _ _),lv,TN,u_,ea];rfl
noncomputable def KP(m:BM)(wj ls r8:Wf):Wg:=nN λa=>m a wj ls r8
noncomputable def FD(i:Nat)(x:V8)(j:Nat)(f1 f3:uQ S2)(m:BM):uQ S2:=λenv g=>if pV env i x=true then(f1 env g).bind λd1=>(f3 env g).bind λd3=>(g.2[j]?).bind λls=>KP m [d1] ls [d3]else none
theorem AM{f1 f3:uQ S2}(i j:Nat)(Q:Nh X.prog X.w X.K X.mg X.base k nm 1 1 m)(hr:bo k X.A)(h1:yR X (dY X.K C x dx cn ons as) .cl e1 f1)(h3:yR X (dY X.K C x dx cn ons as) .cl e3 f3)
  (hf:ons[j]?=some f:=by rfl) (JQ:(cn++ons).Nodup:=by decide) (hN:X.N[i]?=some y:=by rfl) (hv:qP X.env.scope y:=by first | exact Or.inl rfl | exact Or.inr (Or.inl rfl) | exact Or.inr (Or.inr rfl))
  (hd:(y==("__debug__":Str))=false:=by decide) (eM:(y==("__classdict__":Str))=false:=by decide) (hg:Gl X nm:=by rfl) (nC:(nm==("__debug__":Str))=false:=by decide)
  (hb1:attributeBase (.Name y px) f X.env (eval (.Name y px) X.env)=eval (.Name y px) X.env:=by rfl)
  (fL:(backTo pos (starEach [.Attribute (.Name y px) f fpos,e3] X.env)).any (·.1)=false:=by rfl)
  (s1:starEach [e1,.Attribute (.Name y px) f fpos,e3] X.env=(false,eval e1 X.env)::starEach [.Attribute (.Name y px) f fpos,e3] X.env:=by rfl) (s2:starEach [.Attribute (.Name y px) f fpos,e3] X.env=(false,eval (.Attribute (.Name y px) f fpos) X.env)::starEach [e3] X.env:=by rfl)
  (s3:starEach [e3] X.env=(false,eval e3 X.env)::starEach [] X.env:=by rfl) :
  yR X (dY X.K C x dx cn ons as) .cl (.Call (.Name nm p) [e1,.Attribute (.Name y px) f fpos,e3] [] pos) (FD i x j f1 f3 m):=by
 obtain⟨fa,fd,ps,hps,F,hm,hk,hb⟩:=Q.ex;refine PE.imp (xf F hr hg hm hk hb .nil wF (aY h1 (aY (qp (cF hN hv hd eM) hb1) (aY h3 cj s3) s2) s1) nC s1 fL) λσ H Q' hq=>?_;obtain⟨env,B,Z,g,d,W,e,kk⟩:=hq;obtain⟨hi,e⟩:=uP e;obtain⟨d1,q1,e⟩:=a_.mp e;obtain⟨d3,q3,e⟩:=a_.mp e;obtain⟨ls,q4,e⟩:=a_.mp e;refine⟨env,B,Z,g,d1,W,q1,λv1 Z1 H1 x1 r1=>?_⟩;have W1:=W.ext x1;obtain⟨yv,e5,e6⟩:=W1.R.sl i _ (eT hi);cases(show yv=some (V.ref x)from e6);obtain⟨vs,ex,rv,lv⟩:=W1.j.ex;obtain⟨a,us,ea,hu,r⟩:=W1.j.ow.get q4;refine⟨_,e5,x,C,dx,_,.ref a,rfl,ex,W1.j.cl,W1.j.na f (y_ _ (F_ hf)),B4 JQ hf ea lv,env,B,Z1,g,d3,W1,q3,λv3 Z3 H3 x3 r3=>?_⟩;have W3:=W1.ext x3;have GZ:a∈x::dx::as:=d_ _ (d_ _ (F_ ea));exact⟨Z3,[d1],[d3],[v1],[v3],a,us,ls,d,rfl,rfl,rfl,W3.R.zh,⟨_,_,rfl,Rep.mono x3.z d1 r1,rfl⟩,⟨_,_,rfl,r3,rfl⟩,W3.j.z a GZ,x3.h _ _ hu,ai.mono x3.z ls r,iD e a,λv Z' H' x4 r4=>kk v Z' H' ((x1.trans x3).trans x4) r4⟩
def Ay(i:Nat)(x:V8)(j:Nat)(fi:Fe):uQ S2:=λenv g=>if pV env i x=true then(fi env).bind λd=>(g.2[j]?).bind λls=>aV (.lst ls) d else none
theorem D2{fi:Fe}{gb:Gr}(i j:Nat)(hb:PD X gb e fi)(hf:ons[j]?=some f:=by rfl)(JQ:(cn++ons).Nodup:=by decide)(hN:X.N[i]?=some y:=by rfl)(hv:qP X.env.scope y:=by first | exact Or.inl rfl | exact Or.inr (Or.inl rfl) | exact Or.inr (Or.inr rfl))
  (hd:(y==("__debug__":Str))=false:=by decide) (eM:(y==("__classdict__":Str))=false:=by decide) (hb1:attributeBase (.Name y px) f X.env (eval (.Name y px) X.env)=eval (.Name y px) X.env:=by rfl) (hs:qW e:=by intro _ _;rfl) :
  yR X (dY X.K C x dx cn ons as) .cl (.Subscript (.Attribute (.Name y px) f fpos) e pos) (Ay i x j fi):=PE.imp (Gv (wL.or BF) (qp (cF hN hv hd eM) hb1) hb hs) λσ H Q' hq=>by
 obtain⟨env,B,Z,g,d,W,e,kk⟩:=hq;obtain⟨hi,e⟩:=uP e;obtain⟨di,q1,e⟩:=a_.mp e;obtain⟨ls,q2,e⟩:=a_.mp e;obtain⟨yv,e5,e6⟩:=W.R.sl i _ (eT hi);cases(show yv=some (V.ref x)from e6);obtain⟨vs,ex,rv,lv⟩:=W.j.ex;obtain⟨a,us,ea,hu,r⟩:=W.j.ow.get q2;refine⟨_,e5,x,C,dx,_,.ref a,rfl,ex,W.j.cl,W.j.na f (y_ _ (F_ hf)),B4 JQ hf ea lv,env,B,Z,di,W.R,q1,λv2 Z2 H2 x2 r2=>?_⟩;exact GH x2.zh (.inr (.inl ⟨a,us,ls,rfl,rfl,x2.h _ _ hu,ai.mono x2.z ls r⟩)) r2.pk e λv Z3 H3 x3 r3=>kk v Z3 H3 (x2.trans x3) r3
end
end Mi
namespace Lm
open PySem PySem.Spec PyProof.Rows L2 Mi
section
variable {X:Cx}{A:V3}{pins:VI}{σ:L2.St}{Z H:Hp}{l q I S:V8}{xs:Wh}{kf:Nat->Int}{R:Result->V1->Prop}
theorem Bm(hh:A.handled=none)(hS:c7 X.K H l xs)(RC:l≠I)(N3:l≠S)(Ni:S≠I)(turn:Gx X A.in1 σ Z H q xs kf)
  (hR:∀i v u s' Z' H',xs[i]?=some v->RelV v u->(∀j,j<xs.length->kf j<=kf i/\(j<i->kf j<kf i))->Inv X pins σ H' s'->Ex Z H Z' H'->R (.ok (.ret u)) s') :
  ∀(r j i:Nat)(s:V1)(Z1 H1:Hp)(v:V)(vb:V0)(tb:Tok)(c:Nat),xs.length-(j+1)=r->j+1<=xs.length->Inv X pins σ H1 s->Ex Z H Z1 H1->bQ X pins H1 S->bQ X pins H1 I->
   s.heap.get? S=some (seqObj "list" #[vb,.int (kf i) tb] c)->s.heap.IsTupleIter I l (j+1)->xs[i]?=some v->RelV v vb->i<=j->(∀j',j'<=j->kf j'<=kf i/\(j'<i->kf j'<kf i))->
   codeAny (model X.prog X.w) A (.builtin "max.loop" ⟨[.ref I,.ref q,.ref S],[]⟩) R s:=by
 have uK:(toString "max"++toString ".loop":String)="max.loop":=by decide
 intro r
 induction r with
 | zero=>
  intro j i s Z1 H1 v vb tb c hr hj J x fS fI gS hit hv rv ML hbest;obtain⟨bu,ri,p,_⟩:=J.tuple (cI x.h hS);have Dp:bu.length=j+1:=by have:=ri.length;lia
  refine S8 UL ?_;rw[Tz SN _];show wpAny _ A.in1 (seqItems? (.ref S) >>= _) _ _ _;refine b_ (TM gS rfl ?_);show wpAny _ A.in1 (tryCatch (pyNext (.ref I)) _ >>= _) _ _ _;refine b_ (Tg (wpAny_pyNext_tuple_end hh hit p (by simp[Dp]) λh' eb=>?_));have gS':=eb S _ Ni gS;have J1:Inv X pins σ H1 {s with heap:=h'}:=J.turned (t':=s.toks) (λb o hb e=>eb b o hb e) fI.1 fI.2.1 fI.2.2.2.1 fI.2.2.2.2.1 fI.2.2.2.2.2;have s1:=SE h' S (Obj.mapSeq λ_=>(#[]:Array V0));show wpAny _ A.in1 (updateSeq S (λ_=>#[]) >>= _) _ _ _;refine b_ ?_;refine wpAny_updateSeq gS' rfl (b_ (Vo (g_ ?_)));exact hR i v vb _ _ _ hv rv (λj' hj'=>hbest j' (by lia)) (J1.turned (t':=s.toks) (λb o hb e=>(s1.2 b hb).trans e) fS.1 fS.2.1 fS.2.2.2.1 fS.2.2.2.2.1 fS.2.2.2.2.2) x
 | succ r ih=>
  intro j i s Z1 H1 v vb tb c hr hj J x fS fI gS hit hv rv ML hbest;have fg:j+1<xs.length:=by lia
  obtain⟨bu,ri,p,_⟩:=J.tuple (cI x.h hS);have hx:xs[j+1]?=some xs[j+1]:=v_ fg;obtain⟨u,hu,ru⟩:=ri.get hx;refine S8 UL ?_;rw[Tz SN _];show wpAny _ A.in1 (seqItems? (.ref S) >>= _) _ _ _;refine b_ (TM gS rfl ?_);show wpAny _ A.in1 (tryCatch (pyNext (.ref I)) _ >>= _) _ _ _;refine b_ (Tg (UB hit p (x:=u) (by simpa using hu) λh' nA sb=>?_));have J1:Inv X pins σ H1 {s with heap:=h'}:=J.turned (t':=s.toks) (λb o hb e=>(sb.2 b hb).trans e) fI.1 fI.2.1 fI.2.2.2.1 fI.2.2.2.2.1 fI.2.2.2.2.2;obtain⟨Oc,JS,FO,zT⟩:=id nA;have gS1:=(sb.2 S Ni).trans gS;have J2:=KR J1 fS fI gS1 JS (λv z=>by cases z) (λv z=>by rw[zT]at z;cases z);show wpAny _ A.in1 (tryCatch (holding [u] (call (.ref q) [u])) _ >>= _) _ _ _;refine b_ (Tg (L_ (Sx (turn (j+1) _ u hx ru _ _ Z1 H1 J2 x) (λy s2 he=>?_) λ_ _ hF=>hF.elim)));obtain⟨t2,H2,Z2,rfl,J3,x2⟩:=he;have nS:=J3.pin (S,_) (y_ _ (y_ _ (.head _)));have nI:=J3.pin (I,_) (y_ _ (y_ _ (.tail _ (.head _))));have J4:=J3.unpinned;have JI:s2.heap.IsTupleIter I l (j+1+1):=⟨Oc,nI.1,FO,zT⟩;show wpAny _ A.in1 (tryCatch (holding [u,.int (kf (j+1)) t2] (richCompare .Gt (.int (kf (j+1)) t2) (.int (kf i) tb) >>= _)) _ >>= _) _ _ _;refine b_ (Tg (L_ (b_ (CmpOf.ints_gt (prog:=X.prog) (w:=X.w) (A:=A.in1) (P:=λi v=>∃t,v=.int (kf i) t) kf (λi v h=>h) (j+1) i _ _ _ _ _ ⟨t2,rfl⟩ ⟨tb,rfl⟩ ?_))));refine b_ (L_ (SG ?_));refine b_ (Vo (g_ ?_));have xT:bQ X pins H2 S:=bQ.at fS nS.2.1;have Od:bQ X pins H2 I:=bQ.at fI nI.2.1
  by_cases jl:kf (j+1)>kf i
  .have s1:=SE s2.heap S (Obj.mapSeq λ_=>#[u,.int (kf (j+1)) t2]);obtain⟨c2,r6⟩:∃c2,(s2.heap.update S (Obj.mapSeq λ_=>#[u,.int (kf (j+1)) t2])).get? S=some (seqObj "list" #[u,.int (kf (j+1)) t2] c2):=⟨_,U1 nS.1 λ_=>#[u,.int (kf (j+1)) t2]⟩;simp only[jl,decide_true,TK];refine b_ ?_;refine wpAny_updateSeq nS.1 rfl (b_ (Vo ?_));rw[uK];refine g_ ⟨UW SN _,ih (j+1) (j+1) _ Z2 H2 _ u t2 c2 (by lia) fg (J4.turned (t':=s2.toks) (λb o hb e=>(s1.2 b hb).trans e) xT.1 xT.2.1 xT.2.2.2.1 xT.2.2.2.2.1 xT.2.2.2.2.2) (x.trans x2) xT Od r6
    ⟨Oc,(s1.2 I Ni.symm).trans nI.1,FO,zT⟩ hx ru (l_ _) λj' hj'=>?_⟩
   by_cases e:j'=j+1
   .subst e;exact⟨by lia,λ_=>by lia⟩
   .have hb1:=hbest j' (by lia);have hb2:=hb1.1;exact⟨by lia,λ_=>by lia⟩
  .simp only[jl,decide_false,J_,SA];refine b_ (Vo ?_);rw[uK];refine g_ ⟨UW SN _,ih (j+1) i s2 Z2 H2 v vb tb c (by lia) fg J4 (x.trans x2) xT Od nS.1 JI hv rv (by lia) λj' hj'=>?_⟩
   by_cases e:j'=j+1
   .subst e;exact⟨by lia,λ_=>by lia⟩
   .exact hbest j' (by lia)
theorem DL{s:V1}{Q:VH}{E:VH}(hh:A.handled=none)(hS:c7 X.K H l xs)(J:Inv X pins σ H s)(zh:aD Z H)(hne:0<xs.length)(turn:Gx X A.in1 σ Z H q xs kf)
  (hQ:∀i v u s' Z' H',xs[i]?=some v->RelV v u->(∀j,j<xs.length->kf j<=kf i/\(j<i->kf j<kf i))->Inv X pins σ H' s'->Ex Z H Z' H'->Q u s') :
  wpAny (model X.prog X.w) A (call (.builtin "max") [.ref l] [("key",.ref q)]) Q E s:=by
 have uK:(toString "max"++toString ".loop":String)="max.loop":=by decide
 obtain⟨bu,ri,p,_⟩:=J.tuple hS;have hll:=(let ⟨_,e,_⟩:=p;r_ e);refine kmk_tree PySem.F.kind_max PySem.F.plain_max PySem.F.entry_max (kmk_max_key _ _) ?_;show wpAny _ A.in1 (Builtin.Builtins.bindParams "max" ["key","default"] 0 ⟨[],[("key",.ref q)]⟩ >>= _) _ _ s;refine b_ (UE (show Builtin.Builtins.bindParams "max" ["key","default"] 0 ⟨[],[("key",.ref q)]⟩=pure [some (.ref q),none]from rfl) ?_);refine b_ (g_ ?_);refine b_ (TY p ?_);refine b_ (Vt ?_ (Ts _));rw[uK];have sI:(s.heap.push {cls:=.type "tuple_iterator",data:=.fields #[.ref l,.int 0 0]}).objs.size=s.heap.objs.size+1:=size_push' ..;rw[sI];have gI:((s.heap.push {cls:=.type "tuple_iterator",data:=.fields #[.ref l,.int 0 0]}).push (seqObj "list" #[] 0)).get? s.heap.objs.size=some {cls:=.type "tuple_iterator",data:=.fields #[.ref l,.int 0 0]}:=
  e_ _ (p_ _ rfl)
 have gS:((s.heap.push {cls:=.type "tuple_iterator",data:=.fields #[.ref l,.int 0 0]}).push (seqObj "list" #[] 0)).get? (s.heap.objs.size+1)=some (seqObj "list" #[] 0):=by rw[<- sI];exact p_ _ rfl
 have kk:∀b o,s.heap.get? b=some o->((s.heap.push {cls:=.type "tuple_iterator",data:=.fields #[.ref l,.int 0 0]}).push (seqObj "list" #[] 0)).get? b=some o:=λb o e=>e_ _ (e_ _ e);have fI:bQ X pins H s.heap.objs.size:=J.fpOk (l_ _) (J.hok.fresh (l_ _));have fS:bQ X pins H (s.heap.objs.size+1):=J.fpOk (UC _) (J.hok.fresh (UC _));have Ni:s.heap.objs.size+1≠s.heap.objs.size:=Vy _;have RC:l≠s.heap.objs.size:=w_ hll;have N3:l≠s.heap.objs.size+1:=w_ (SO hll);have J0:Inv X pins σ H {s with heap:=(s.heap.push {cls:=.type "tuple_iterator",data:=.fields #[.ref l,.int 0 0]}).push (seqObj "list" #[] 0)}:=J.kept (t':=s.toks) kk;generalize hh2:(s.heap.push {cls:=.type "tuple_iterator",data:=.fields #[.ref l,.int 0 0]}).push (seqObj "list" #[] 0)=h2 at gI gS J0 kk;refine g_ ⟨UW SN _,?_⟩;have hx:xs[0]?=some xs[0]:=v_ hne;obtain⟨uH,ri2,p2,_⟩:=J0.tuple hS;obtain⟨u,hu,ru⟩:=ri2.get hx;refine S8 UL ?_;rw[Tz SN _];show wpAny _ A.in1 (seqItems? (.ref _) >>= _) _ _ _;refine b_ (TM gS rfl ?_);show wpAny _ A.in1 (tryCatch (pyNext (.ref s.heap.objs.size)) _ >>= _) _ _ _;refine b_ (Tg (UB ⟨_,gI,rfl,rfl⟩ p2 (x:=u) (by simpa using hu) λh' nA sb=>?_));have J1:Inv X pins σ H {s with heap:=h'}:=J0.turned (t':=s.toks) (λb o hb e=>(sb.2 b hb).trans e) fI.1 fI.2.1 fI.2.2.2.1 fI.2.2.2.2.1 fI.2.2.2.2.2;obtain⟨Oc,JS,FO,zT⟩:=id nA;have gS1:=(sb.2 _ Ni).trans gS;have J2:=KR J1 fS fI gS1 JS (λv z=>by cases z) (λv z=>by rw[zT]at z;cases z);show wpAny _ A.in1 (tryCatch (holding [u] (call (.ref q) [u])) _ >>= _) _ _ _;refine b_ (Tg (L_ (Sx (turn 0 _ u hx ru _ _ Z H J2 (Ex.refl zh)) (λy s2 he=>?_) λ_ _ hF=>hF.elim)));obtain⟨t2,H2,Z2,rfl,J3,x2⟩:=he;have nS:=J3.pin (_,_) (y_ _ (y_ _ (.head _)));have nI:=J3.pin (_,_) (y_ _ (y_ _ (.tail _ (.head _))));have J4:=J3.unpinned;have xT:bQ X pins H2 (s.heap.objs.size+1):=bQ.at fS nS.2.1;have Od:bQ X pins H2 s.heap.objs.size:=bQ.at fI nI.2.1;have s1:=SE s2.heap (s.heap.objs.size+1) (Obj.mapSeq λ_=>#[u,.int (kf 0) t2]);obtain⟨c2,r6⟩:∃c2,(s2.heap.update (s.heap.objs.size+1) (Obj.mapSeq λ_=>#[u,.int (kf 0) t2])).get? (s.heap.objs.size+1)=some (seqObj "list" #[u,.int (kf 0) t2] c2):=⟨_,U1 nS.1 λ_=>#[u,.int (kf 0) t2]⟩;show wpAny _ A.in1 (updateSeq (s.heap.objs.size+1) (λ_=>#[u,.int (kf 0) t2]) >>= _) _ _ _;refine b_ ?_;refine wpAny_updateSeq nS.1 rfl ?_;rw[uK];refine g_ ⟨UW SN _,Bm hh hS RC N3 Ni turn (λi v u s' Z' H' h1 h2 h3 h4 h5=>hQ i v u s' Z' H' h1 h2 h3 h4 h5) _ 0 0 _ Z2 H2 _ u t2 c2 rfl hne
  (J4.turned (t':=s2.toks) (λb o hb e=>(s1.2 b hb).trans e) xT.1 xT.2.1 xT.2.2.2.1 xT.2.2.2.2.1 xT.2.2.2.2.2) x2 xT Od r6 ⟨Oc,(s1.2 _ Ni.symm).trans nI.1,FO,zT⟩ hx ru (l_ _) λj' hj'=>?_⟩
 have e:j'=0:=by lia
 subst e;exact⟨by lia,λh=>absurd h (T7 _)⟩
end
end Lm
namespace Mi
open PySem PySem.Spec PyProof.Rows L2 Lm
noncomputable def KF(th:Str->Int)(f:Fe):Fi:=λenv=>(f env).bind λd=>(GF th d).bind λm=>if m.1.all Kl=true then some (m.1.map O1)else none
theorem E'{X:Cx}{tg l:V9}{f:Fe}{th:Str->Int}(hw:th=hashStr X.w)(h:PD X .nm l f):ID X tg l (KF th f):=by
 subst hw;refine PI.imp (An h) λσ H R az=>?_;obtain⟨env,B,Z,ds,Rr,e,k⟩:=az;obtain⟨d,e1,e⟩:=a_.mp e;obtain⟨m,e2,e⟩:=a_.mp e;obtain⟨hk,e⟩:=uP e;cases e;cases mS e2;refine⟨env,B,Z,_,Rr,e1,λv Z1 H1 x1 g1=>?_⟩;obtain⟨a,FQ,Jz,Jy,rfl,e3,h1,⟨bs,vs,h2,hp,r⟩,h3⟩:=g1;cases e3;refine⟨a,m.1,bs,vs,rfl,h2,hp.mono x1.zh,λhl ob=>?_⟩;have s1:aD Z1 (upd Z1 a (.ext (iN a ob))):=dj h3;refine k _ (upd Z1 a (.ext (iN a ob))) _ ⟨λb u q=>?_,x1.z.trans s1,λb u q=>?_,λb hb q=>?_,kX x1.nf Jh⟩ λZ' H' y1 y2 i=>?_
 .rw[au (λz=>by subst z;rw[h1]at q;cases q)];exact x1.h b u q
 .by_cases z:b=a
  .subst z;rw[av]at q ⊢;exact q
  .rw[au z]at q ⊢;exact x1.zh b u q
 .rw[au (λz=>hb (by rw[z];exact h1))];exact x1.fr b hb q
 .have ha:H' a=some (.ext (iN a ob)):=(y1.trans y2) _ _ av;rw[c_];refine⟨λhi=>⟨⟨ha,by rw[hl];exact hi⟩,λx H'' y=>?_⟩,λhi=>⟨ha,by rw[hl];exact hi⟩⟩;obtain⟨rfl,hy⟩:=y;have hb:bs[i]?=some (bs[i]'(by rw[hl];exact hi)):=v_ _;rw[hy _ hb];refine⟨Z',O1 m.1[i],Ex.refl y2,by simp[hi],_,_,rfl,cI (s1.trans y1) (hp i _ _ (by simp[hi]) hb),rJ (P_.mp hk _ (Uh hi))⟩
def wO(ns:VX):Nat:=ns.findIdx λn=>ns.all λm=>decide (m<=n)
def LL(g:D->Wg):D->Wg
 | .tup ds=>(ic g ds).bind λns=>ds[wO ns]?
 | _=>none
def y6(f:Fe)(caps:VW)(fl:Fe):Fe:=λenv=>(f env).bind (LL λx=>fl ((bM 1 caps env).set 0 (.F x)))
theorem xo{ns:VX}{i:Nat}(hi:i<ns.length)(h:∀j,j<ns.length->ns.getD j 0<=ns.getD i 0/\(j<i->ns.getD j 0<ns.getD i 0)):wO ns=i:=by
 have g:∀(j:Nat)(hj:j<ns.length),ns.getD j 0=ns[j]:=λj hj=>by rw[Sq,v_ hj];rfl
 refine(List.findIdx_eq hi).mpr ⟨?_,λj hj=>?_⟩
 .rw[P_];intro m hm;obtain⟨k,hk,rfl⟩:=U6 hm;have:=(h k hk).1;rw[g i hi,g k hk]at this;exact x_ this
 .have hj':=VC hj hi;have:=(h j hj').2 hj;rw[g i hi,g j hj']at this;rw[Vq];intro z;rw[P_]at z;have:=H_ (z _ (Uh hi))
  lia
theorem Io{X:Cx}{P c0:V8}{k:Nat}{e body:V9}{params:Arguments}{scope:V7}{x0:Str}{fe fl:Fe}{Nc:VS}{caps:VW}{cl:VM}{p pos lpos MN:Pos}(hr:bo (k+2) X.A)(hm:X.mg "max"=none)(bq:X.calm=true)
  (ht:tq X.K P=some (vW X)) (xS:X.env.code=.ref c0) (hC:PySem.W.codeHdIn X.K c0 P=true) (he:PD X .cl e fe)
  (fo:fE (λx=>X.env.cells.lookup x) scope.names []=some cl) (hN:Nc.map some=some x0::caps.map (λj=>X.N[j]?)) (fj:g9 X scope caps=true)
  (hbody:∀f c s H pn,bo k (X.A.in1.deeper (q8 X scope cl f c s.sz))->PD (tj X X.A.in1 scope cl Nc f c s H pn) .cl body fl)
  (h0:scope.names.lookup x0=some .local:=by rfl) (bE:scope.kind=.function:=by rfl) (hnc:∀y∈scope.names,y.2≠.cell:=by decide +kernel) (PR:scope.isCoroutine=false:=by rfl) (JN:scope.isGenerator=false:=by rfl)
  (hb:∀c ctv u,bindArgs (yj X params body scope cl c ctv) ⟨[u],[]⟩=pure [(x0,u)]:=by intro _ _ _;rfl) (JM:defaultsOf params X.env=([],[]):=by rfl)
  (hg:Gl X "max":=by rfl) (hst:starEach [e] X.env=(false,eval e X.env)::starEach [] X.env:=by rfl)
  (h1:backTo pos (starEach [e] X.env)=(false,eval e X.env)::backTo pos (starEach [] X.env):=by rfl) (h2:(backTo pos (starEach [e] X.env)).any (·.1)=false:=by rfl) :
  PD X .cl (.Call (.Name "max" p) [e] [⟨some "key",.Lambda params body scope lpos,MN⟩] pos) (y6 fe caps fl):=by
 intro pins s σ H Q I az;obtain⟨env,B,Z,d,R,e1,kk⟩:=az;obtain⟨d1,e2,e3⟩:=a_.mp e1;cases d1<;>try cases e3
 rename_i ds;obtain⟨ns,e4,e5⟩:=a_.mp e3;obtain⟨hlen,dJ⟩:=mr e4;have hpos:0<ds.length:=by
  obtain⟨z,_⟩:=s_.mp e5
  lia
 refine T1 (jg I hg hm UO ?_ (by decide) (by decide));refine callWith_kw (bB (aY he cj hst pos pins s σ H (λvs H1=>∃l xs Z1,vs=[.ref l]/\Ex Z H Z1 H1/\c7 X.K H1 l xs/\ai X.K Z1 ds xs) I ⟨env,B,Z,_,R,e2,λv Z1 H1 x1 g1=>?_⟩) λus s1 az=>?_) h1 h2 rfl rfl
 .obtain⟨l,xs,rfl,hq,rr⟩:=g1;exact⟨l,xs,Z1,rfl,x1,cI x1.zh hq,rr⟩
 obtain⟨vs,H1,I1,r1,l,xs,Z1,rfl,x1,hS,rr⟩:=az;obtain⟨u,rfl,rx⟩:=vals1 r1;cases rx;show wpAny _ _ (evalAll [(do let v <- eval (.Lambda params body scope lpos) X.env;standAt pos;pure v)]) _ _ s1;refine wpAny_evalAll_cons (b_ (Hl I1 (I1.tb P _ ht) xS (PySem.W.codeHd_of_K I.ok.mod.kin hC) I.ok.mod.bmod (ej fo) JM λf c H2 s2 I2 sm NZ hc hf=>b_ (SI (g_ (wpAny_evalAll_nil ?_)))));show wpAny _ _ (call (.builtin "max") [.ref l] [("key",.ref f)]) _ _ s2;have x2:Ex Z1 H1 Z1 H2:=⟨sm,aD.refl _,x1.zh.trans sm,λ_ _ h=>h,λ_ _ _ h=>h⟩;have R2:=(R.ext x1).ext x2;have hxl:=rr.len;refine DL (kf:=λi=>ns.getD i 0) (A:=X.A) (I.ok.hd bq) (cI sm hS) I2 x2.zh (by lia) (λi v u hv ru CT s' Z' H' I' x'=>?_) λi v u s' Z' H' hv ru jl I' x'=>?_
 .obtain⟨d,hd,rep⟩:=rr.getV hv;exact Bx (k:=k+1) I' (R2.ext x') I.ok.frames hr.in1 (x'.h _ _ hf) (x'.h _ _ hc) (hb c) PR JN fo bE hnc hN fj h0 (λs H pn=>hbody f c s H pn (hr.in1.deeper _)) ru (Rep.mono x'.z d rep) (dJ i d hd)
 .obtain⟨d',hd,rep⟩:=rr.getV hv;have hi:i<ns.length:=by rw[hlen];exact(s_.mp hd).1
  rw[xo hi λj hj=>jl j (by lia),hd]at e5;cases e5;exact⟨v,H',I',ru,kk v Z' H' ((x1.trans x2).trans x') (Rep.mono x'.z _ rep)⟩
section
variable {P:V2}{w:V5}{K:Fg}{mg:VL}{base:V4}{C:V8}{cn ons:VS}
theorem OL{x qual:Str}{st:V_}{f c:V8}{fd:V6}{N ps:VS}{k n:Nat}{fb:V8->iL S2}(F:xR K x qual st f fd)(hc:fd.code=.ref c)(S:bY N ps (aq st))(hp:ps.length=n+1)(hN:n+1<=N.length)
  (hb:∀(a dx:V8)(as:VT)(A:V3)(outer:List Env)(s:V1)(H:Hp)(E:XK),bo k (A.deeper (envOfC qual (aq st) s.sz f (.ref c)))->zP (gE jk P w K mg base N qual (aq st) f (.ref c) A outer s H E).nox (dY K C a dx cn ons as) .cl (aP st) (fb a)) :
  dM P w K mg base jk (k+1) f fd ps (Ny K C cn ons n (nH fb N.length)):=by
 obtain⟨oc,od,kV,doc,pm,an,bP,ct,zS,rfl,lk,eM⟩:=F.ex;cases(show bP=.ref c from hc);refine Ag lk eM S (λvs H Q E hq=>?_) λA outer s H vs Q E hr hq=>?_
 .obtain⟨Z,ds,us,x,dx,as,g,d,g',rfl,hl,_,r,_⟩:=hq;rw[m_,<- r.len,hl,hp]
 .obtain⟨Z,ds,us,x,dx,as,g,d,g',rfl,hl,s1,r,j,e,kk⟩:=hq;refine⟨_,iG.nox (hb x dx as A outer s H E hr),?_⟩;obtain⟨⟨o,g1⟩,e1,e2⟩:=a_.mp e;obtain⟨R,no⟩:=Rl.startM (x:=x) (fp:=x::dx::as) s1 r (N:=N) (by rw[hl];exact hN);have W:Wr (dY K C x dx cn ons as) (eI H (x::dx::as)) Z H (startM N.length x ds) (L2.start N (.ref x::us)) g:=⟨R,j,λb hb=>eR hb,λi es b h=>absurd h (no i es)⟩;cases o with
  | rt d'=>cases e2;exact⟨_,_,Z,g,_,_,W,e1,kk⟩
  | nx _=>cases e2;exact⟨_,_,Z,g,_,_,W,e1,λσ' Z' H' x1 W1=>kk .non Z' H' x1 rfl W1.j⟩
  | bk _=>cases e2
  | ct _=>cases e2
end
end Mi
namespace Mi
open PySem PySem.Spec PyProof.Rows L2
theorem Lv{X:Cx}{T:nD X.K}{e:V9}{f:uQ T.S}(h:yR X T .nw e f):yR X T .cl e f:=PE.imp h λσ H Q hq=>by
 obtain⟨env,B,Z,g,d,W,e,k⟩:=hq;refine⟨env,B,Z,g,d,W,e,λv Z' H' x r=>?_⟩;obtain⟨a,vs,ds,rfl,rfl,h1,h2,h3,r⟩:=r;have s1:aD Z' (upd Z' a (.lst vs)):=dj h3;exact k _ (upd Z' a (.lst vs)) H' ⟨x.h,x.z.trans s1,lV x.zh h2,λb hb e=>by rw[au (λz=>hb (by rw[z];exact h1))];exact x.fr b hb e,kX x.nf Kh⟩ ⟨a,vs,rfl,cW.of av,ai.mono s1 ds r⟩
abbrev Wd.QB(W:Wd)(d:Nat)(x:Str)(n1 n2:Nat)(m:BM):Prop:=∀j,d<=j->Nh W.P W.w W.K W.mg W.base j x n1 n2 m
abbrev Wd.QM(W:Wd)(d:Nat)(C:V8)(cn ons:VS)(mn:Str)(n:Nat)(m:MM):Prop:=∀j,d<=j->Na W.P W.w W.K W.mg W.base j C cn ons mn n m
abbrev Wd.QI(W:Wd)(d:Nat)(C:V8)(cn ons:VS)(x:Str)(n:Nat)(m:Wf->Option S2):Prop:=∀j,d<=j->Nd W.P W.w W.K W.mg W.base j C cn ons x n m
abbrev Wd.Me(W:Wd)(C:V8)(mn qual:Str)(st:V_):Prop:=∃f fd,xR W.K mn qual st f fd/\CU W.K C mn f
abbrev Wd.MeC(W:Wd)(C:V8)(mn qual:Str)(st:V_)(c:V8):Prop:=∃f fd,xR W.K mn qual st f fd/\fd.code=.ref c/\CU W.K C mn f
abbrev QS(x qual:Str)(st:V_)(ps:VS):Prop:=∀(kV doc pm:V0)(an:VR)(bP ct:V0)(us:VP),us.length=ps.length->bindArgs (PySem.W.fnOf x qual (bO st) (aP st) (aq st) .none kV doc pm an bP ct) ⟨us,[]⟩=pure (ps.zip us)
structure FunV(K:Fg)(dV:Value)(x qual:Str)(st:Stmt)(f:Addr)(fd:FuncData):Prop where
 ex:∃(oc:Value)(od:Option Addr)(kV doc pm:Value)(an:Option Addr)(bP ct:Value)(zS:Array (Option Value)),
  fd=PySem.W.fnOf x qual (bO st) (aP st) (aq st) dV kV doc pm an bP ct/\K.lookup f=some ⟨oc,od,.func fd,zS⟩/\PySem.W.codeIn K bP qual=true
section
variable {W:Wd}{x mn qual:Str}{st:V_}{k n n1 n2:Nat}{C c:V8}{cn ons:VS}
theorem RO{fb:V8->iL Wf}(N:VS)(n1 n2:Nat)(h:W.At x st)
  (hb:∀(a:V8)(us:Wh)(bP:V0)(A:V3)(outer:List Env)(s:V1)(H:Hp)(E:XK)(f:V8),bo k (A.deeper (envOfC x (aq st) s.sz f bP))->N.Nodup->zP (gE jk W.P W.w W.K W.mg W.base N x (aq st) f bP A outer s H E).nox (A2 W.K a us) .cl (aP st) (fb a))
  (hp:(N.take (n1+1+n2)).length=n1+1+n2:=by decide) (hN:n1+1+n2<=N.length:=by decide)
  (S:bY N (N.take (n1+1+n2)) (aq st):=by exact⟨rfl,rfl,rfl,by decide +kernel,rfl,by decide +kernel,by decide +kernel⟩)
  (hB:Bi x st (N.take (n1+1+n2)):=by intro _ _ _ _ _ _;first | exact Kc λ_=>rfl | exact Kg λ_ _=>rfl | exact Kj λ_ _ _=>rfl | exact Kk λ_ _ _ _=>rfl | exact ar5 λ_ _ _ _ _=>rfl):W.QB (k+1) x n1 n2 (FI fb N.length):=by
 obtain⟨f,fd,F,hk,hm⟩:=h;have O:=RX (w:=W.w) (P:=W.P) (mg:=W.mg) (base:=W.base) (fb:=fb) F S hp hN λa us bP A outer s H E hr=>hb a us bP A outer s H E f hr S.nd;exact λj hj=>⟨f,fd,_,hp,O.mono hj,hm,hk,F.binds hB⟩
theorem QW{fb:V8->iL S2}(N:VS)(n:Nat)(h:W.Me C mn qual st)
  (hb:∀(a dx:V8)(as:VT)(bP:V0)(A:V3)(outer:List Env)(s:V1)(H:Hp)(E:XK)(f:V8),bo k (A.deeper (envOfC qual (aq st) s.sz f bP))->N.Nodup->zP (gE jk W.P W.w W.K W.mg W.base N qual (aq st) f bP A outer s H E).nox (dY W.K C a dx cn ons as) .cl (aP st) (fb a))
  (hp:(N.take (n+1)).length=n+1:=by decide) (hN:n+1<=N.length:=by decide)
  (S:bY N (N.take (n+1)) (aq st):=by exact⟨rfl,rfl,rfl,by decide +kernel,rfl,by decide +kernel,by decide +kernel⟩)
  (hB:QS mn qual st (N.take (n+1)):=by intro _ _ _ _ _ _;first | exact Kc λ_=>rfl | exact Kg λ_ _=>rfl | exact Kj λ_ _ _=>rfl | exact Kk λ_ _ _ _=>rfl | exact ar5 λ_ _ _ _ _=>rfl):W.QM (k+1) C cn ons mn n (nH fb N.length):=by
 obtain⟨f,fd,F,hm⟩:=h;have O:=RW (w:=W.w) (P:=W.P) (mg:=W.mg) (base:=W.base) (C:=C) (cn:=cn) (ons:=ons) (fb:=fb) F S hp hN λa dx as bP A outer s H E hr=>hb a dx as bP A outer s H E f hr S.nd;exact λj hj=>⟨f,fd,_,hm,O.mono hj,F.binds hB⟩
theorem Pa{fb:V8->iL S2}(N:VS)(n:Nat)(h:W.MeC C mn qual st c)
  (hb:∀(a dx:V8)(as:VT)(A:V3)(outer:List Env)(s:V1)(H:Hp)(E:XK)(f:V8),bo k (A.deeper (envOfC qual (aq st) s.sz f (.ref c)))->N.Nodup->zP (gE jk W.P W.w W.K W.mg W.base N qual (aq st) f (.ref c) A outer s H E).nox (dY W.K C a dx cn ons as) .cl (aP st) (fb a))
  (hp:(N.take (n+1)).length=n+1:=by decide) (hN:n+1<=N.length:=by decide)
  (S:bY N (N.take (n+1)) (aq st):=by exact⟨rfl,rfl,rfl,by decide +kernel,rfl,by decide +kernel,by decide +kernel⟩)
  (hB:QS mn qual st (N.take (n+1)):=by intro _ _ _ _ _ _;first | exact Kc λ_=>rfl | exact Kg λ_ _=>rfl | exact Kj λ_ _ _=>rfl | exact Kk λ_ _ _ _=>rfl | exact ar5 λ_ _ _ _ _=>rfl):W.QM (k+1) C cn ons mn n (nH fb N.length):=by
 obtain⟨f,fd,F,hc,hm⟩:=h;have O:=OL (w:=W.w) (P:=W.P) (mg:=W.mg) (base:=W.base) (C:=C) (cn:=cn) (ons:=ons) (fb:=fb) F hc S hp hN λa dx as A outer s H E hr=>hb a dx as A outer s H E f hr S.nd;exact λj hj=>⟨f,fd,_,hm,O.mono hj,F.binds hB⟩
abbrev Wd.Mi(W:Wd)(C:V8)(x qual:Str)(st:V_)(ps:VS):Prop:=W.mg x=some (.ref C)/\zR W.K C/\∃f fd dV,FunV W.K dV "__init__" qual st f fd/\Mk W.K C f/\Binds W.K fd ps []
theorem Sa{fb:V8->En->S2->Option S2}(N:VS)(n:Nat)(h:W.Mi C x qual st (N.take (n+1)))
  (hb:∀(a dx:V8)(bP:V0)(A:V3)(outer:List Env)(s:V1)(H:Hp)(E:XK)(f:V8),bo k (A.deeper (envOfC qual (aq st) s.sz f bP))->N.Nodup->Kd (gE jk W.P W.w W.K W.mg W.base N qual (aq st) f bP A outer s H E).nox C a dx [] [] [] cn ons (aP st) (fb a))
  (hp:(N.take (n+1)).length=n+1:=by decide) (hN:n+1<=N.length:=by decide)
  (S:bY N (N.take (n+1)) (aq st):=by exact⟨rfl,rfl,rfl,by decide +kernel,rfl,by decide +kernel,by decide +kernel⟩):W.QI (k+1) C cn ons x n (Fd fb N.length):=by
 obtain⟨hx,hc,f,fd,dV,F,hm,hB⟩:=h;obtain⟨oc,od,kV,doc,pm,an,bP,ct,zS,rfl,lk,eM⟩:=F.ex;have O:dM W.P W.w W.K W.mg W.base jk (k+1) f (PySem.W.fnOf "__init__" qual (bO st) (aP st) (aq st) dV kV doc pm an bP ct) (N.take (n+1)) (OK W.K C cn ons n (Fd fb N.length)):=by
  refine Ag lk eM S (λvs H Q E hq=>?_) λA outer s H vs Q E hr hq=>?_
  .obtain⟨Z,ds,us,x,dx,g,rfl,hl,_,r,_⟩:=hq;rw[m_,<- r.len,hl,hp]
  .obtain⟨Z,ds,us,x,dx,g,rfl,hl,s1,r,z1,z2,hne,h1,h2,e,kk⟩:=hq;refine⟨_,iG.nox (hb x dx bP A outer s H E f hr S.nd),?_⟩;obtain⟨R,no⟩:=Rl.startM (x:=x) (fp:=[x,dx]) s1 r (N:=N) (by rw[hl];exact hN);have z12:∀b∈[x,dx],Z b=none:=λb hb=>by
    rcases o_.mp hb with z | z
    .rw[z];exact z1
    .rw[k_.mp z];exact z2
   have W:Wr (dY W.K C x dx [] [] []) (eI H [x,dx]) Z H (startM N.length x ds) (L2.start N (.ref x::us)) ([],[]):=
    ⟨R,⟨⟨[],h1,rfl,rfl⟩,h2,rfl,z12,I_.mpr ⟨λz=>hne (k_.mp z).symm,I_.mpr ⟨by simp,S5⟩⟩,rfl,hc,λn hn=>by cases hn⟩,λb hb=>eR hb,λi es b h=>absurd h (no i es)⟩
   exact⟨_,_,Z,_,g,W,iD e x,λσ' Z' H' Du x1 hb j=>kk Du Z' H' x1 hb j⟩
 exact λj hj=>⟨f,_,_,hx,hm,O.mono hj,hB⟩
end
end Mi
namespace K25
open PySem Mi
abbrev af:Fe:=λenv=>gF env 0
abbrev ag:Fe:=λenv=>gF env 1
abbrev aj:Fe:=λenv=>gF env 2
abbrev aE:Fe:=λenv=>gF env 3
abbrev aR:Fe:=λenv=>gF env 4
abbrev bc:Fe:=λenv=>gF env 5
abbrev bH:Fe:=λenv=>gF env 6
abbrev sZ:Fe:=λenv=>gF env 7
abbrev iU:Fe:=λenv=>gF env 8
abbrev uk:Fe:=λenv=>gF env 9
abbrev B2:Fe:=λenv=>gF env 10
abbrev vi:Fe:=λenv=>gF env 11
noncomputable section
variable [Th]
def cu:D:=(.tup [(.str "water"),(.str "hit"),(.str "sunk")])
def mY:D:=(.int 8)
def qb:D:=(.tup [(.str "along"),(.str "down")])
def kT :Fs:=(aI (setF 2 (ak mulI (ak addI (ak addI (ak modI af (ak powI (fC (.int 10)) (fC (.int 60)))) (ak mulI (fC (.int 7919)) ag)) Wj) (fC (.int 27182818284590452353602874713527)))) (aI (setF 2 (ak modI aj (fC (.int 170141183460469231731687303715884105727)))) (bj (ak fdivI (ak modI (ak powI (ak addI (ak powI aj (fC (.int 5))) (ak mulI (fC (.int 48271)) ag)) Wk) (fC (.int 162259276829213363391578010288127))) (fC (.int 7))))))
def m__law_stir:=bF (kT ) 3
def et:Fs:=(iC (Dm (fB (ak ltI af (ak powI (fC (.int 10)) (fC (.int 18))))) (fB (ak gv aE Wi))) (rN 2 (ak modI (λenv=>((ab af (ab aR fNil)) env).bind m__law_stir) (ak aV ag aR))) (aI (rN 2 (ak modI aE (ak aV ag aR))) (setF 3 (ak fdivI aE (ak aV ag aR)))))
def rL:Fs:=(aI (setO 2 (bV fNil)) (aI (setF 3 af) (aI (eY (cY (bt bX ag)) (aZ 4) et) (tI 2))))
def m__law_drawn:=bF rL 5
def qm :Fs:=(bj (ky (ak leI aj (ak minI af ag)) (ak gtI (ak addI (ak modI af aj) (ak modI ag aj)) aj)))
def m_needs_ring:=bF (qm ) 3
def BP :Fs:=(aI (wB [4,5] af) (aI (wB [6,7] ag) (aI (iC (fB (ak gv aj (fC (.str "along")))) (setF 8 (aG (cY bH) [0] (aZ 0) Wl (dH (Ii Wi (ak addI (ak subI aj aE) Wj) aE) [1] (aZ 1) Wl (ax (a7 (ab af (ab ag fNil))))) 2 [7,3])) (setF 8 (aG (Ii Wi (ak addI (ak subI bH aE) Wj) aE) [0] (aZ 0) Wl (dH (cY aj) [1] (aZ 1) Wl (ax (a7 (ab af (ab ag fNil))))) 2 [7]))) (bj (aG (cw iU) [0,1] (rT [0,1]) Wl (ax (a7 (ab (ak addI aj af) (ab (ak addI aE ag) (ab aR (ab bc fNil)))))) 2 [4,5,2,3])))))
def m_lot_of:=bF (BP ) 9
def qd:Fs:=(aI (wB [3,4] (a7 (ab (ak modI af aj) (ab (ak modI ag aj) fNil)))) (aI (wB [5,6] (a7 (ab (ak subI (ak subI af aj) aE) (ab (ak subI (ak subI ag aj) aR) fNil)))) (aI (setO 7 (λenv=>((ab (a7 (ab Wi (ab Wi fNil))) (ab (a7 (ab bc (ab ag fNil))) (ab (fC (.str "down")) (ab aj fNil)))) env).bind m_lot_of)) (aI (ja 7 (λenv=>((ab (a7 (ab bc (ab Wi fNil))) (ab (a7 (ab (ak addI aj aE) (ab bH fNil))) (ab (fC (.str "along")) (ab aj fNil)))) env).bind m_lot_of)) (aI (ja 7 (λenv=>((ab (a7 (ab bc (ab bH fNil))) (ab (a7 (ab aE (ab aj fNil))) (ab (fC (.str "along")) (ab aj fNil)))) env).bind m_lot_of)) (aI (ja 7 (λenv=>((ab (a7 (ab bc (ab (ak addI bH aj) fNil))) (ab (a7 (ab aj (ab aR fNil))) (ab (fC (.str "down")) (ab aj fNil)))) env).bind m_lot_of)) (aI (ja 7 (λenv=>((ab (a7 (ab (ak addI bc aj) (ab (ak addI bH aR) fNil))) (ab (a7 (ab aE (ab aj fNil))) (ab (fC (.str "along")) (ab aj fNil)))) env).bind m_lot_of)) (aI (ja 7 (λenv=>((ab (a7 (ab (ak addI bc aE) (ab bH fNil))) (ab (a7 (ab aj (ab aR fNil))) (ab (fC (.str "down")) (ab aj fNil)))) env).bind m_lot_of)) (tI 7)))))))))
def m_ring_ships:=bF qd 8
def oh:Fs:=(aI (iC (fB (λenv=>((ab af (ab ag (ab aj fNil))) env).bind m_needs_ring)) (bj (λenv=>((ab af (ab ag (ab aj fNil))) env).bind m_ring_ships)) nxF) (aI (setF 3 (ak subI ag (ak modI ag aj))) (aI (setF 4 (λenv=>((ab (a7 (ab Wi (ab Wi fNil))) (ab (a7 (ab af (ab aE fNil))) (ab (fC (.str "along")) (ab aj fNil)))) env).bind m_lot_of)) (bj (ak j8 aR (λenv=>((ab (a7 (ab Wi (ab aE fNil))) (ab (a7 (ab af (ab (ak subI ag aE) fNil))) (ab (fC (.str "down")) (ab aj fNil)))) env).bind m_lot_of))))))
def m_apart_ships:=bF oh 5
def sO :Fs:=(aI (wB [1,2] af) (bj (aG (cY ag) [0] (aZ 0) Wl (dH (cY aj) [1] (aZ 1) Wl (ax (a7 (ab af (ab ag fNil))))) 2 [2])))
def m_all_cells:=bF (sO ) 3
def tH:Fs:=(aI (setF 3 (iteFn (fB (ak leI aj af)) Wj Wi)) (aI (setF 4 (iteFn (fB (ak leI aj ag)) Wj Wi)) (aI (setF 5 (λenv=>((ab (a7 (ab af (ab ag fNil))) fNil) env).bind m_all_cells)) (bj (aG (cw bc) [0,1] (rT [0,1]) (fB (ak gv (ak modI (ak addI (ak mulI af aj) (ak mulI ag aE)) aR) (ak subI aR Wj))) (ax (a7 (ab af (ab ag fNil)))) 2 [3,4,2])))))
def m_net_cells:=bF tH 6
def zX:Fs:=(bj (a7 (ab (λenv=>((ab af (ab ag (ab aj fNil))) env).bind m_net_cells) (ab (bt CD (λenv=>((ab af (ab ag (ab aj fNil))) env).bind m_apart_ships)) fNil))))
def m_net_of:=bF zX 3
def dG :Fs:=(ja 1 (aG (cY (ak aV af Wj)) [0] (aZ 0) Wl (ax (a7 (ab ag (ab af fNil)))) 1 [2]))
def jc :Fs:=(aI (setO 1 (bV fNil)) (aI (eY (cY (ak aV af Wi)) (aZ 2) (dG )) (tI 1)))
def m__law_sheet_cells:=bF (jc ) 3
def nR :Fs:=(rN 3 (aG (cY aj) [0] (aZ 0) Wl (ax (a7 (ab ag (ab (ak addI aj af) fNil)))) 1 [4,5]))
def n6 :Fs:=(eY (cY (ak addI (ak subI ag aj) Wj)) (aZ 5) (nR ))
def nL :Fs:=(rN 3 (aG (cY aj) [0] (aZ 0) Wl (ax (a7 (ab (ak addI ag af) (ab aj fNil)))) 1 [4,5]))
def nW :Fs:=(eY (cY ag) (aZ 5) (nL ))
def r9 :Fs:=(aI (setO 3 (bV fNil)) (aI (eY (cY af) (aZ 4) (n6 )) (aI (eY (cY (ak mulI (ak addI (ak subI af aj) Wj) (bt intD (ak gtI aj Wj)))) (aZ 4) (nW )) (tI 3))))
def m__law_runs:=bF (r9 ) 6
def eZ :Fs:=(aI (setF 6 (iteFn (fB (ak pB bc (a7 fNil))) (ak addI (ak DF af (ak aV bc (bt tS Wj))) Wj) Wi)) (ja 4 (aG (cw (rV cG af (dB bH) oNone)) [0] (aZ 0) Wl (ax (ak tR ag (a7 (ab af fNil)))) 1 [5])))
def eU :Fs:=(aI (setO 4 (bV fNil)) (aI (eY (cw aj) (aZ 5) (eZ )) (aI (Iw 4) (setF 2 aR))))
def sq :Fs:=(aI (setF 2 (bV (ab (a7 fNil) fNil))) (aI (eY (cY ag) (aZ 3) (eU )) (bj aj)))
def m__law_sets:=bF (sq ) 7
def gL:Fs:=(Ca 2 (ak modI (λenv=>((ab af (ab (ak addI (ak mulI Wk aE) Wj) fNil)) env).bind m__law_stir) (ak addI aE Wj)) aR)
def qS:Fs:=(aI (setO 2 (bV fNil)) (aI (eY (Mz ag) (rT [3,4]) gL) (tI 2)))
def m__law_order:=bF qS 5
def nQ :Fs:=(bj (ky (bt (Ao .tuple) af) (ak gv (bt bX af) ag)))
def m_is_tuple_of:=bF (nQ ) 2
def vX :Fs:=(bj (ky (bt (Ao .int) af) (bt KB (bt (Ao .bool) af))))
def m_is_whole:=bF (vX ) 1
def yy:Fs:=(aI (iC (je (fB (λenv=>((ab ag (ab (fC (.int 2)) fNil)) env).bind m_is_tuple_of))) (bj (fC (.bl false))) nxF) (aI (wB [2,3] ag) (bj (ky (λenv=>((ab aj fNil) env).bind m_is_whole) (ky (λenv=>((ab aE fNil) env).bind m_is_whole) (ky (Hx leI ltI Wi aj (ak aV af Wi)) (Hx leI ltI Wi aE (ak aV af Wj))))))))
def m_is_cell:=bF yy 4
def qw :Fs:=(bj (aG (cw af) [0,1] (rT [0,1]) Wl (ax af) 2 []))
def m_shot_cells:=bF (qw ) 1
def iR:Fs:=(aI (iC (je (fB (λenv=>((ab af (ab aj fNil)) env).bind m_is_cell))) (λ_=>none) nxF) (iC (fB (ak (iV false) aj (λenv=>((ab ag fNil) env).bind m_shot_cells))) (λ_=>none) nxF))
def m_refuse_shot:=runN iR 3
def zu:Fs:=(bj (ky (λenv=>((ab af fNil) env).bind m_is_whole) (Hx leI leI Wj af (fC mY))))
def m_is_size:=bF zu 1
def yh:Fs:=(aI (iC (je (fB (λenv=>((ab ag (ab (fC (.int 4)) fNil)) env).bind m_is_tuple_of))) (bj (fC (.bl false))) nxF) (aI (wB [2,3,4,5] ag) (aI (iC (Dm (fB (ak (iV true) aR (fC qb))) (Dm (je (fB (λenv=>((ab bc fNil) env).bind m_is_size))) (je (fB (λenv=>((ab af (ab (a7 (ab aj (ab aE fNil))) fNil)) env).bind m_is_cell))))) (bj (fC (.bl false))) nxF) (aI (iC (fB (ak gv aR (fC (.str "down")))) (bj (ky (ak gtI bc Wj) (ak leI (ak addI aj bc) (ak aV af Wi)))) nxF) (bj (ak leI (ak addI aE bc) (ak aV af Wj)))))))
def m_is_ship:=bF yh 6
def vz:Fs:=(aI (setF 2 (aG (cw (λenv=>((ab af fNil) env).bind m_all_cells)) [0,1] (rT [0,1]) Wl (dH (nE (fC qb)) [2] (aZ 2) Wl (ax (a7 (ab af (ab ag (ab aj (ab aE fNil))))))) 3 [1])) (bj (aG (cw aj) [0] (aZ 0) (fB (λenv=>((ab ag (ab af fNil)) env).bind m_is_ship)) (ax af) 1 [0])))
def m_ships_of:=bF vz 3
def v7 :Fs:=(aI (wB [1,2,3,4] af) (aI (iC (fB (ak gv aE (fC (.str "down")))) (bj (aG (cY aR) [0] (aZ 0) Wl (ax (a7 (ab (ak addI ag af) (ab aj fNil)))) 1 [1,2])) nxF) (bj (aG (cY aR) [0] (aZ 0) Wl (ax (a7 (ab ag (ab (ak addI aj af) fNil)))) 1 [1,2]))))
def m_cells_of:=bF (v7 ) 5
def cK :Fs:=(iC (fB (ak (iV false) ag aE)) (bj (iteFn (fB (bt vk (aG (cw aE) [0] (aZ 0) Wl (ax (ak (iV false) af ag)) 1 [2]))) (fC (.str "sunk")) (fC (.str "hit")))) nxF)
def sd :Fs:=(aI (eY (cw af) (aZ 3) (cK )) (bj (fC (.str "water"))))
def m_answer_to:=bF (sd ) 4
def qy:Fs:=(aI (setF 2 (aG (nE af) [0] (aZ 0) Wl (ax (λenv=>((ab af fNil) env).bind m_cells_of)) 1 [])) (bj (aG (Mz ag) [0,1] (rT [0,1]) Wl (ax (λenv=>((ab aj (ab ag (ab (rV cG aE oNone (dB (ak addI af Wj))) fNil))) env).bind m_answer_to)) 2 [2,1])))
def m_answers_of:=bF qy 3
def Hj:Fs:=(bj (ak gv (λenv=>((ab af (ab (λenv=>((ab ag fNil) env).bind m_shot_cells) fNil)) env).bind m_answers_of) (aG (cw ag) [0,1] (rT [0,1]) Wl (ax ag) 2 [])))
def m_fits:=bF Hj 2
def tK:Fs:=(aI (setF 2 (λenv=>((ab af fNil) env).bind m_cells_of)) (bj (λenv=>((ab (a7 (ab af fNil)) (ab (aG (cw ag) [0,1] (rT [0,1]) (fB (ak (iV false) af aj)) (ax (a7 (ab af (ab ag fNil)))) 2 [2]) fNil)) env).bind m_fits)))
def m_ship_fits:=bF tK 3
def l9 :Fs:=(aI (setF 2 (iteFn (fB (ak gv (ak aV af (fC (.int 2))) (fC (.str "down")))) (ak subI (ak addI (ak aV af Wi) (ak aV af Wk)) Wj) (ak aV af Wi))) (aI (setF 3 (iteFn (fB (ak gv (ak aV ag (fC (.int 2))) (fC (.str "down")))) (ak subI (ak addI (ak aV ag Wi) (ak aV ag Wk)) Wj) (ak aV ag Wi))) (bj (OY zW (ak subI (ak aV ag Wi) aj) (ak subI (ak aV af Wi) aE) Wi))))
def m_rows_between:=bF (l9 ) 4
def jE :Fs:=(aI (setF 2 (iteFn (fB (ak gv (ak aV af (fC (.int 2))) (fC (.str "along")))) (ak subI (ak addI (ak aV af Wj) (ak aV af Wk)) Wj) (ak aV af Wj))) (aI (setF 3 (iteFn (fB (ak gv (ak aV ag (fC (.int 2))) (fC (.str "along")))) (ak subI (ak addI (ak aV ag Wj) (ak aV ag Wk)) Wj) (ak aV ag Wj))) (bj (OY zW (ak subI (ak aV ag Wj) aj) (ak subI (ak aV af Wj) aE) Wi))))
def m_columns_between:=bF (jE ) 4
def Hv:Fs:=(aI (setF 3 (λenv=>((ab ag (ab aj fNil)) env).bind m_rows_between)) (aI (setF 4 (λenv=>((ab ag (ab aj fNil)) env).bind m_columns_between)) (aI (iC (fB (ak gv af (fC (.str "free")))) (bj (ak gtI (ak addI aE aR) Wi)) nxF) (aI (iC (fB (ak gv af (fC (.str "sides")))) (bj (ak gtI (ak addI aE aR) Wj)) nxF) (bj (ak gtI (ak maxI aE aR) Wj))))))
def m_keep:=bF Hv 5
def rD:Fs:=(aI (iC (i9 (fB (ak gv (ak aV aj Wk) (ak aV ag Wk))) (fB (ak KS aj ag))) (bj (fC (.bl false))) nxF) (bj (λenv=>((ab af (ab ag (ab aj fNil))) env).bind m_keep)))
def m_may_follow:=bF rD 3
def eS(dZ:Wf->Wg):Fs:=(aI (setF 6 (aG (cw aE) [0] (aZ 0) Wl (ax (aG (cw af) [0] (aZ 0) (fB (λenv=>((ab ag (ab aj (ab af fNil))) env).bind m_may_follow)) (ax af) 1 [1,2])) 1 [0,5])) (ja 4 (aG (cw (λenv=>((ab af (ab bH fNil)) env).bind dZ)) [0] (aZ 0) Wl (ax (ak tR (a7 (ab ag fNil)) af)) 1 [5])))
def cQ(dZ:Wf->Wg):Fs:=(aI (GG 2 3 ag) (aI (iC (je (fT aE)) (bj (aG (cw aj) [0] (aZ 0) Wl (ax (a7 (ab af fNil))) 1 [])) nxF) (aI (setO 4 (bV fNil)) (aI (eY (cw aj) (aZ 5) (eS dZ)) (tI 4)))))
def a9:Nat->Wf->Wg
 | 0=>λ_=>none
 | n+1=>bF (cQ (a9 n)) 7
def gw:Wf->Wg:=a9 4
def nZ:Fs:=(aI (setF 4 (aG (cw aE) [0,1] (rT [0,1]) (fB (ak pB ag (fC (.str "water")))) (ax af) 2 [])) (aI (setF 5 (aG (nE ag) [0] (aZ 0) Wl (ax (aG (cw (λenv=>((ab ag (ab af fNil)) env).bind m_ships_of)) [0] (aZ 0) (fB (λenv=>((ab af (ab ag fNil)) env).bind m_ship_fits)) (ax af) 1 [2])) 1 [0,3])) (aI (setF 6 (hZ Th.h (cw bc) [0] (aZ 0) Wl (dH (cw af) [1] (aZ 1) Wl (gz ag (bt bX (aG (cw (λenv=>((ab ag fNil) env).bind m_cells_of)) [0] (aZ 0) (fB (ak (iV false) af ag)) (ax af) 1 [2])))) 2 [4])) (aI (setF 7 (λenv=>((ab aj (ab bc fNil)) env).bind gw)) (bj (aG (cw sZ) [0] (aZ 0) (fB (ak gv (bt yz (aG (nE af) [0] (aZ 0) Wl (ax (ak (getM Th.h) ag af)) 1 [1])) (bt bX aj))) (ax af) 1 [6,4]))))))
def m_all_fitting:=bF nZ 8
def ng:Fs:=(aI (setF 4 (λenv=>((ab af (ab ag (ab aj (ab aE fNil)))) env).bind m_all_fitting)) (aI (iC (je (fT aR)) (λ_=>none) nxF) (bj aR)))
def m_some_fitting:=bF ng 5
def b9 :Fs:=(HQ Th.h 1 (ak addI (w5 Th.h (λenv=>Av env 1) aE Wi) Wj) aE)
def gy :Fs:=(eY (nE aj) (aZ 3) (b9 ))
def nM :Fs:=(aI (setM 1 (fC (.mp Th.h [] []))) (aI (eY (cw af) (aZ 2) (gy )) (HM 1)))
def m_ship_counts:=bF (nM ) 4
def cU(L:V8)(ks:List L2.Key):iL (List Wf):=fA (rW (setF 7 (aG (nE bH) [0] (aZ 0) (fB (ak pB (ak (getM Th.h) ag af) (fC (.str "water")))) (ax (ak (getM Th.h) ag af)) 1 [4]))) (xu 5 L ks (iteFn (fT sZ) (ak aV sZ Wi) (fC (.str "water"))) bH)
def gX:Fs:=aI (setF 4 (hZ Th.h (KF Th.h (λenv=>((ab af fNil) env).bind m_ship_counts)) [0] (aZ 0) Wl (gz af (λenv=>((ab (bV (ab (λenv=>((ab af fNil) env).bind m_cells_of) fNil)) (ab ag (ab aj fNil))) env).bind m_answer_to)) 1 [2,3])) (newX Th.h 5 (jV (nE (fC cu)) [0] (aZ 0) Wl (kj af (bV fNil)) 1 []) (λL ks=>qY (cw af) (aZ 6) (cU L ks)))
def pq(a:V8):iL Wf:=fA (EM 3 (B0 1 a D.lst (ak j8 (λenv=>((ab ag fNil) env).bind m_shot_cells) (bV (ab aj fNil))))) (rW gX)
def eh:BM:=FI pq 8
abbrev Cg:VS:=["sheet","fleet","rule"]
abbrev B7:VS:=["shots","layers"]
def Cq(x:V8):En->S2->Option S2:=Ke 0 x ag (Ke 0 x aj (Ke 0 x aE (Lo 0 x (bV fNil) (Lo 0 x (bV (ab (λenv=>((ab ag (ab aj (ab aE (ab (bV fNil) fNil)))) env).bind m_some_fitting) fNil)) (λ_ g=>some g)))))
def m_init:=Fd Cq 4
def oO(x:V8):iL S2:=fA (E2 (yF 0 x (zz (Cg++B7)) (λenv=>((ab (bt (ny "sheet") af) (ab (bt (ny "shots") af) (ab ag fNil))) env).bind m_refuse_shot))) (HR (FD 0 x 0 (Ay 0 x 1 (bt tS Wj)) (Hn ag) eh))
def ee:MM:=nH oO 2
def Bf(x:V8):iL S2:=fA (sT 0 x 0 (Hn (a7 (ab ag (ab aj fNil))))) (sT 0 x 1 (Hn aE))
def mw:MM:=nH Bf 4
def xc(x:V8):iL S2:=fA (vL 2 (iY 0 x (ab ag fNil) ee)) (fA (rW (setF 3 (y6 (fC cu) [2] (bt bX (ak (i6 Th.h) ag af))))) (fA (Fp (iY 0 x (ab ag (ab aE (ab (ak (i6 Th.h) aj aE) fNil))) mw)) (rW (bj aE))))
def ju:MM:=nH xc 4
def sW:Fs:=(aI (setF 3 (aG (cY af) [0] (aZ 0) Wl (dH (cY (ak addI (ak subI aj aE) Wj)) [1] (aZ 1) Wl (ax (a7 (ab af (ab ag (ab (fC (.str "along")) (ab aE fNil))))))) 2 [1,2])) (aI (setF 4 (aG (cY (ak addI (ak subI af aj) Wj)) [0] (aZ 0) Wl (dH (cY aj) [1] (aZ 1) Wl (ax (a7 (ab af (ab ag (ab (fC (.str "down")) (ab aE fNil))))))) 2 [1,2])) (bj (aG (cw (ak j8 aE aR)) [0] (aZ 0) Wl (ax (λenv=>((ab af fNil) env).bind m_cells_of)) 1 []))))
def m_bodies_of:=bF sW 5
def AW:Fs:=(aI (iC (je (fB (bt vk (aG (cw aE) [0] (aZ 0) Wl (ax (λenv=>((ab (a7 (ab ag (ab aj fNil))) (ab af fNil)) env).bind m_is_cell)) 1 [0,1])))) (bj (fC (.bl false))) nxF) (aI (setF 4 (bt BR aE)) (aI (iC (fB (ak ltI (bt EA aR) (bt bX aE))) (bj (fC (.bl false))) nxF) (bj (bt vk (aG (cw (λenv=>((ab af (ab ag (ab aj fNil))) env).bind m_bodies_of)) [0] (aZ 0) Wl (ax (bt FG (aG (cw af) [0] (aZ 0) Wl (ax (ak (NH false) af ag)) 1 [1]))) 1 [4]))))))
def m_is_net:=bF AW 5
def c6(x:V8):iL S2:=fA (vL 5 (iY 3 x (ab (ak aV aj aR) fNil) ju)) (fA (rW (setF 6 (λenv=>((ab (ak aV af Wi) (ab (ak aV af Wj) (ab ag (ab (bt iX (rV cG aj oNone (dB (ak addI aR Wj)))) fNil)))) env).bind m_is_net))) (fA (rW (iC (i9 (fB bH) (i9 (fB (ak gv bc (fC (.str "water")))) (je (fB (λenv=>((ab (ak aV af Wi) (ab (ak aV af Wj) (ab ag (ab (bt iX (rV cG aj oNone (dB aR))) fNil)))) env).bind m_is_net))))) (bj (fC (.bl false))) nxF)) (rW (iC (fB (ak pB bc (fC (.str "water")))) (bj (fC (.bl true))) nxF))))
def eG:Fs:=Jf 3 (ab af (ab (a7 (ab ag fNil)) (ab (fC (.str "free")) fNil))) m_init (λx=>fA (qY (cY (bt bX aj)) (aZ 4) (c6 x)) (rW (bj (fC (.bl true)))))
def m__law_water_right:=bF eG 7
def lG :Fs:=(iC (fB (ak gv (aG (cw uk) [0] (aZ 0) (fB (ak gv (aG (cw af) [0] (aZ 0) (fB (ak (iV false) af ag)) (ax af) 1 [1]) (bV fNil))) (ax af) 1 [10]) (bV fNil))) (bj (fC (.bl false))) nxF)
def qX:Fs:=(iC (je (fB (λenv=>((ab bc (ab aR (ab B2 fNil))) env).bind m__law_water_right))) (bj (fC (.bl false))) nxF)
def qH:Fs:=(aI (NJ [2,3,4] (λenv=>((ab ag (ab (bV (ab Wk (ab (fC (.int 5)) (ab (fC (.int 4)) fNil)))) fNil)) env).bind m__law_drawn)) (aI (setF 5 (a7 (ab (ak addI Wj aj) (ab (ak addI Wj aE) fNil)))) (aI (setF 4 (ak addI Wj aR)) (aI (wB [6,7] (λenv=>((ab (ak aV bc Wi) (ab (ak aV bc Wj) (ab aR fNil))) env).bind m_net_of)) (aI (setF 8 (λenv=>((ab bc fNil) env).bind m__law_sheet_cells)) (aI (setF 9 (λenv=>((ab (ak aV bc Wi) (ab (ak aV bc Wj) (ab aR fNil))) env).bind m__law_runs)) (aI (iC (i9 (fB (ak gtI (bt bX bH) Wi)) (fB (ak ltI (bt bX bH) (fC (.int 6))))) (eY (cw (λenv=>((ab iU (ab (ak subI (bt bX bH) Wj) fNil)) env).bind m__law_sets)) (aZ 10) (lG )) nxF) (iC (fB (ak pB uk (bV fNil))) (aI (setF 11 (ak j8 bH (aG (cw (λenv=>((ab ag (ab iU fNil)) env).bind m__law_order)) [0] (aZ 0) (fB (ak (iV true) af ag)) (ax af) 1 [6]))) (eY (nE (a7 (ab vi (ab (λenv=>((ab ag (ab iU fNil)) env).bind m__law_order) fNil)))) (aZ 10) qX)) nxF))))))))
def KH:Fs:=(aI (eY (cw (ak j8 (bV (ab Wi fNil)) (rV cG af oNone (dB (fC (.int 8)))))) (aZ 1) qH) (bj (fC (.bl true))))
def m_law:=bF KH 12
end
end K25
namespace K25
open PySem Mi
variable [Th]
theorem xm(c k:Int)(hk:0<=k)(Ob:k<=1000):∃z,m__law_stir [.int c,.int k]=some (.int z):=by
 have p60:powI (.int 10) (.int 60)=some (.int (10 ^ 60)):=rq (qE (by decide) (by decide)) (by decide) (by decide);have PX:(0:Int)<10 ^ 60:=by decide +kernel
 have h1:(c%10 ^ 60).natAbs<=10 ^ 60:=by
  have a:=T5 c (Int.ne_of_gt PX);have b:=Tf c PX;have e:(10 ^ 60:Int)=((10 ^ 60:Nat):Int):=by decide +kernel
  lia
 have m1:mulI (.int 7919) (.int k)=some (.int (7919*k)):=uY (by decide) (by decide) (by lia) (by lia);have h2:(c%10 ^ 60+7919*k+1).natAbs<=10 ^ 60+7919001:=by lia
 have m2:mulI (.int (c%10 ^ 60+7919*k+1)) (.int 27182818284590452353602874713527)=some (.int ((c%10 ^ 60+7919*k+1)*27182818284590452353602874713527)):=Dz (mF _ h2) (mF 27182818284590452353602874713527 (by decide));generalize hn:(c%10 ^ 60+7919*k+1)*27182818284590452353602874713527=n at m2;have Nj:modI (.int n) (.int 170141183460469231731687303715884105727)=some (.int (n%170141183460469231731687303715884105727)):=jZ (by decide);have h3:(n%170141183460469231731687303715884105727).natAbs<=170141183460469231731687303715884105727:=by lia
 generalize n%170141183460469231731687303715884105727=q at Nj h3;have p5:powI (.int q) (.int 5)=some (.int (q ^ 5)):=rq (mF _ h3) (by decide) (by decide);have h4:=EF _ 5 h3;have m3:mulI (.int 48271) (.int k)=some (.int (48271*k)):=uY (by decide) (by decide) (by lia) (by lia);have h5:(q ^ 5+48271*k).natAbs<=170141183460469231731687303715884105727 ^ 5+48271000:=EE _ _ h4 (by lia);generalize q ^ 5=t at p5 h5;have p3:powI (.int (t+48271*k)) (.int 3)=some (.int ((t+48271*k) ^ 3)):=rq (mF _ h5) (by decide) (by decide);have hmod2:modI (.int ((t+48271*k) ^ 3)) (.int 162259276829213363391578010288127)=some (.int ((t+48271*k) ^ 3%162259276829213363391578010288127)):=jZ (by decide);have hd:fdivI (.int ((t+48271*k) ^ 3%162259276829213363391578010288127)) (.int 7)=some (.int ((t+48271*k) ^ 3%162259276829213363391578010288127/7)):=wA (by decide) (by decide);have hmod0:modI (.int c) (.int (10 ^ 60))=some (.int (c%10 ^ 60)):=jZ PX;refine⟨(t+48271*k) ^ 3%162259276829213363391578010288127/7,?_⟩
 .unfold m__law_stir bF kT;simp only[cb,List.map,List.length,List.replicate,Sw,SV,aI,setF,bj,ak,fC,Hy,G6,z_,List.set,List.getElem?_cons_zero,List.getElem?_cons_succ,p60,hmod0,m1,k6,m2,Nj,p5,m3,p3,hmod2,hd]
theorem Ip:∃w,powI (.int 10) (.int 18)=some (.int w):=⟨_,rq (qE (by decide) (by decide)) (by decide) (by decide)⟩
theorem E3(c q:Int)(ss r:VX)(i:Nat)(s:Int)(Nk:ss[i]?=some s)(hpos:0<s/\s<1073741824)(hi:i<1000)(hr:r.length=i) :
  ∃y q',et [.F (.int c),.F (.lst (ss.map .int)),.O (.L (r.map .int)),.F (.int q),.F (.int i)]=some (.nx [.F (.int c),.F (.lst (ss.map .int)),.O (.L ((r++[y]).map .int)),.F (.int q'),.F (.int i)])/\0<=y/\y<s:=by
 obtain⟨w,p18⟩:=Ip;have GY:L2.atI (ss.map D.int) (i:Int)=some (.int s):=wQ (by rw[u_,Nk];rfl);obtain⟨z,hz⟩:=xm c i (by lia) (by lia);have RD:(r.map D.int).length<16000000:=by simp;lia
 have snoc:∀y:Int,(r++[y]).map D.int=r.map D.int++[D.int y]:=λy=>by simp
 have Oa:ak aV ag aR [.F (.int c),.F (.lst (ss.map .int)),.O (.L (r.map .int)),.F (.int q),.F (.int i)]=some (.int s):=BN rfl rfl GY;have t1:fB (ak ltI af (ak powI (fC (.int 10)) (fC (.int 18)))) [.F (.int c),.F (.lst (ss.map .int)),.O (.L (r.map .int)),.F (.int q),.F (.int i)]=some (decide (c<w)):=cM ((br rfl ((br rfl rfl).trans p18)).trans (AN _ _));have t2:fB (ak gv aE Wi) [.F (.int c),.F (.lst (ss.map .int)),.O (.L (r.map .int)),.F (.int q),.F (.int i)]=some (q==0):=cM ((br rfl rfl).trans (Ld _ _));have xU:∀{t:Fb}{g:Fs},t [.F (.int c),.F (.lst (ss.map .int)),.O (.L (r.map .int)),.F (.int q),.F (.int i)]=some true->iC t (rN 2 (ak modI (λenv=>((ab af (ab aR fNil)) env).bind m__law_stir) (ak aV ag aR))) g [.F (.int c),.F (.lst (ss.map .int)),.O (.L (r.map .int)),.F (.int q),.F (.int i)]=some (.nx [.F (.int c),.F (.lst (ss.map .int)),.O (.L ((r++[z%s]).map .int)),.F (.int q),.F (.int i)]):=λht=>by
  rw[snoc];exact(hV ht).trans ((GJ rfl ((br ((call_v (ay rfl (ay rfl bD))).trans hz) Oa).trans (jZ hpos.1)) RD))
 by_cases h1:c<w
 .rw[x_ h1]at t1;exact⟨z%s,q,xU (Kv t1),T5 _ (by lia),Tf _ hpos.1⟩
 .rw[R_ h1]at t1
  by_cases h2:q=0
  .rw[show(q==0)=true by simp[h2]]at t2;exact⟨z%s,q,xU ((F' t1).trans t2),T5 _ (by lia),Tf _ hpos.1⟩
  .rw[show(q==0)=false by simp[h2]]at t2;refine⟨q%s,q/s,?_,T5 _ (by lia),Tf _ hpos.1⟩;rw[snoc];refine(cm ((F' t1).trans t2)).trans ((aK (GJ rfl ((br rfl Oa).trans (jZ hpos.1)) RD)).trans (b0 ((br rfl (BN rfl rfl GY)).trans (wA hpos.1 hpos.2))))
theorem AF(c:Int)(ss:VX)(hs:∀x∈ss,0<x/\x<1073741824)(hl:ss.length<=1000) :
  ∃r:VX,m__law_drawn [.int c,.lst (ss.map .int)]=some (.lst (r.map .int))/\r.length=ss.length/\∀(i:Nat)(x s:Int),r[i]?=some x->ss[i]?=some s->0<=x/\x<s:=by
 let I:Nat->En->Prop:=λn env=>∃(r:VX)(q:Int)(s4:Slot),env=[.F (.int c),.F (.lst (ss.map .int)),.O (.L (r.map .int)),.F (.int q),s4]/\r.length=n/\∀(i:Nat)(x s:Int),r[i]?=some x->ss[i]?=some s->0<=x/\x<s
 have RE:(aU 0 ss.length).length=ss.length:=by simp[aU]
 obtain⟨e2,h1,r,q,s4,he,hr,hx⟩:=qf (t:=aZ 4) (body:=et) I (aU 0 ss.length) 0 [.F (.int c),.F (.lst (ss.map .int)),.O (.L []),.F (.int c),.un] ⟨[],c,.un,rfl,rfl,λi x s h=>by simp at h⟩ λi d e hd az=>by
   obtain⟨r,q,s4,he,hr,hx⟩:=az;subst he;obtain⟨rfl,hi⟩:=Dy hd;obtain⟨s,Nk⟩:∃s,ss[i]?=some s:=⟨ss[i],v_ hi⟩;have hpos:=hs s (F_ Nk);obtain⟨y,q',h2,h3,h4⟩:=E3 c q ss r i s Nk hpos (by lia) (by lia);refine⟨_,h2,r++[y],q',_,rfl,by simp;lia,λj x s' nF hsj=>?_⟩
   by_cases hj:j<r.length
   .rw[D_ hj]at nF;exact hx j x s' nF hsj
   .rw[q_ (by lia)]at nF;have hj0:j-r.length=0:=by
     have:=(s_.mp nF).1;simp at this
     lia
    rw[hj0]at nF;cases nF;rw[show j=i by lia,Nk]at hsj;cases hsj;exact⟨h3,h4⟩
 subst he;rw[RE]at hr;refine⟨r,?_,by lia,hx⟩;have hit:cY (bt bX ag) [.F (.int c),.F (.lst (ss.map .int)),.O (.L []),.F (.int c),.un]=some (aU 0 ss.length):=by
  rw[<- c_ (f:=D.int) (as:=ss)];exact ia (mB rfl) (by rw[c_];lia)
 exact bR ((aK rfl).trans ((aK rfl).trans ((aK ((fG hit).trans h1)).trans rfl)))
abbrev uN:Str:="along"
abbrev sDn:Str:="down"
abbrev rY:Str:="free"
abbrev Q7:Str:="sides"
abbrev RQ:Str:="corners"
def ku(r:Str):Prop:=r=rY\/r=Q7\/r=RQ
structure Sh where
 a:Int
 b:Int
 dn:Bool
 n:Nat
 deriving DecidableEq
def Sh.w(s:Sh):Str:=if s.dn=true then sDn else uN
def Sh.d(s:Sh):D:=.tup [.int s.a,.int s.b,.str s.w,.int s.n]
def Sh.at(s:Sh)(i:Int):VY:=if s.dn=true then(s.a+i,s.b)else(s.a,s.b+i)
def Sh.cs(s:Sh):VN:=(List.range s.n).map λ(i:Nat)=>s.at i
def cel(p:VY):D:=.tup [.int p.1,.int p.2]
theorem qC(n:Nat):(aU 0 n).map g=(List.range n).map λ(i:Nat)=>g (.int i):=by
 unfold aU;simp[Q_,Function.comp_def]
theorem zZ(n:Nat):(aU 0 n).flatMap g=(List.range n).flatMap λ(i:Nat)=>g (.int i):=by
 unfold aU;rw[Vz];simp
theorem q9(g:D->Wf):∀(ds:Wf),(∀d∈ds,∃e1,t d env=some e1/\c e1=some true/\k e1=some (g d))->dN t c k env ds=some (ds.flatMap g)
 | [],_=>rfl
 | d::ds,h=>by
  obtain⟨e1,h1,h2,h3⟩:=h d f_;have ih:=q9 g ds λx hx=>h x (d_ _ hx);unfold dN;rw[h1];show(c e1).bind _=_;rw[h2];show(if true=true then k e1 else some []).bind _=_;rw[i_ rfl,h3];show(dN t c k env ds).bind _=_;rw[ih];rfl
theorem CJ(h1:fi env=some ds)(h2:cf is env=true)(h3:dN t c k env ds=some xs):dH fi is t c k env=some xs:=by
 unfold dH;rw[h1];show(if cf is env=true then _ else _)=_;rw[i_ h2,h3]
def OM(s:Sh):D->D
 | .int i=>cel (s.at i)
 | _=>.non
theorem AD(s:Sh):(aU 0 s.n).map (OM s)=s.cs.map cel:=by
 rw[qC];unfold Sh.cs;rw[Q_];rfl
theorem Aw(s:Sh):s.cs.length=s.n:=by unfold Sh.cs;simp
theorem fU(s:Sh)(hn:s.n<=1000):m_cells_of [s.d]=some (.lst (s.cs.map cel)):=by
 have hl:(s.cs.map cel).length<=16000000:=by rw[c_];unfold Sh.cs;simp;lia
 have hit:cY aR [.F s.d,.F (.int s.a),.F (.int s.b),.F (.str s.w),.F (.int s.n)]=some (aU 0 s.n):=ia (n:=s.n) rfl (by lia);refine bR ((aK (tZ (ds:=[.int s.a,.int s.b,.str s.w,.int s.n]) rfl rfl)).trans ?_);show aI _ _ [.F s.d,.F (.int s.a),.F (.int s.b),.F (.str s.w),.F (.int s.n)]=_;obtain⟨a,b,dn,n⟩:=s;cases dn
 .have e0:fB (ak gv aE (fC (.str "down"))) [.F (Sh.d ⟨a,b,false,n⟩),.F (.int a),.F (.int b),.F (.str uN),.F (.int n)]=some false:=rfl;refine(aK ((cm e0).trans rfl)).trans (cB (be hit rfl ?_ hl));rw[<- AD];refine fW (OM ⟨a,b,false,n⟩) _ λd hd=>?_;obtain⟨i,hi,rfl⟩:=lO.mp hd;exact⟨_,rfl,rfl⟩
 .have e0:fB (ak gv aE (fC (.str "down"))) [.F (Sh.d ⟨a,b,true,n⟩),.F (.int a),.F (.int b),.F (.str sDn),.F (.int n)]=some true:=rfl;refine ji ((hV e0).trans (cB (be hit rfl ?_ hl)));rw[<- AD];refine fW (OM ⟨a,b,true,n⟩) _ λd hd=>?_;obtain⟨i,hi,rfl⟩:=lO.mp hd;exact⟨_,rfl,rfl⟩
open Classical in
abbrev K0(a b:Int)(w:Str)(l:Int):D:=.tup [.int a,.int b,.str w,.int l]
def gS(r c l:Int):D->D->Wf
 | .int a,.int b=>(if b+l<=c then [K0 a b uN l]else [])++(if a+l<=r/\1<l then [K0 a b sDn l]else [])
 | _,_=>[]
def atS(R C l a b:Nat):List Sh:=(if(b:Int)+l<=C then [⟨a,b,false,l⟩]else [])++(if(a:Int)+l<=R/\1<l then [⟨a,b,true,l⟩]else [])
def aT(R C l:Nat):List Sh:=(List.range R).flatMap λa=>(List.range C).flatMap λb=>atS R C l a b
theorem Ey(h:s∈atS R C l a b):s.a=a/\s.b=b/\s.n=l/\(s.dn=false->(b:Int)+l<=C)/\(s.dn=true->(a:Int)+l<=R/\1<l):=by
 unfold atS at h;rcases O_.mp h with h | h
 .split at h
  .rename_i hc;cases k_.mp h;exact⟨rfl,rfl,rfl,λ_=>hc,λz=>by cases z⟩
  .cases h
 .split at h
  .rename_i hc;cases k_.mp h;exact⟨rfl,rfl,rfl,λz=>(by cases z),λ_=>hc⟩
  .cases h
theorem zb:s∈aT R C l↔(∃a b:Nat,s.a=a/\s.b=b/\a<R/\b<C)/\s.n=l/\(s.dn=false->s.b+l<=C)/\(s.dn=true->s.a+l<=R/\1<l):=by
 unfold aT;simp only[TQ,SQ];constructor
 .rintro⟨a,ha,b,hb,h⟩;obtain⟨h1,h2,h3,h4,h5⟩:=Ey h;rw[h1,h2];exact⟨⟨a,b,rfl,rfl,ha,hb⟩,h3,h4,h5⟩
 .rintro⟨⟨a,b,h1,h2,ha,hb⟩,h3,h4,h5⟩;refine⟨a,ha,b,hb,?_⟩;obtain⟨sa,sb,dn,n⟩:=s;simp only at h1 h2 h3 h4 h5;subst h1 h2 h3;unfold atS;cases dn
  .rw[i_ (h4 rfl)];simp
  .rw[i_ (h5 rfl)];simp
theorem Fy(R C l a b:Nat):(atS R C l a b).length<=2:=by
 unfold atS;rw[h_];split<;>split<;>simp
theorem d7{α β:Type}{g:α->List β}{B:Nat}:∀(ds:List α),(∀d∈ds,(g d).length<=B)->(ds.flatMap g).length<=B*ds.length
 | [],_=>by simp
 | d::ds,h=>by
  rw[S3,h_,m_,Nat.mul_succ];have:=h d f_;have:=d7 ds λx hx=>h x (d_ _ hx)
  lia
theorem o3(R C l:Nat):(aT R C l).length<=2*C*R:=by
 have h:=d7 (g:=λa=>(List.range C).flatMap λb=>atS R C l a b) (B:=2*C) (List.range R) λa _=>by
  have:=d7 (g:=λb=>atS R C l a b) (B:=2) (List.range C) (λb _=>Fy ..);rwa [Ub]at this
 rwa [Ub]at h
def Sh.ks(s:Sh):List L2.Key:=[.inl s.a,.inl s.b,.inr s.w,.inl s.n]
def rX(s t:Sh):Prop:=s.a<t.a\/(s.a=t.a/\(s.b<t.b\/(s.b=t.b/\((s.dn=false/\t.dn=true)\/(s.dn=t.dn/\s.n<t.n)))))
theorem OV:ER (.inr uN) (.inr sDn)=some true:=by
 show some (decide (uN.cps.toList<sDn.cps.toList))=_;rw[show decide (uN.cps.toList<sDn.cps.toList)=true by decide +kernel]
theorem On:ER (.inr sDn) (.inr uN)=some false:=by
 show some (decide (sDn.cps.toList<uN.cps.toList))=_;rw[show decide (sDn.cps.toList<uN.cps.toList)=false by decide +kernel]
theorem QN:(Sum.inr uN:L2.Key)≠.inr sDn:=λh=>absurd (Sum.inr.inj h) (by decide)
theorem me(x y:L2.Key)(xs ys:List L2.Key):fF (x::xs) (y::ys)=if x=y then fF xs ys else ER x y:=rfl
theorem so(n n':Nat):fF [.inl (n:Int)] [.inl (n':Int)]=some (decide (n<n')):=by
 rw[me]
 by_cases h3:n=n'
 .subst h3;rw[i_ rfl];simp[fF]
 .rw[j_ (λz=>h3 (by have:=Sum.inl.inj z;lia))];show some (decide ((n:Int)<n'))=_;simp
theorem FL(a b a' b':Int)(xs ys:List L2.Key)(q:Bool)(h:fF xs ys=some q):∃r,fF (.inl a::.inl b::xs) (.inl a'::.inl b'::ys)=some r/\(r=true↔a<a'\/(a=a'/\(b<b'\/(b=b'/\q=true)))):=by
 rw[me]
 by_cases h1:a=a'
 .subst h1;rw[i_ rfl,me]
  by_cases h2:b=b'
  .subst h2;rw[i_ rfl];exact⟨q,h,by simp⟩
  .rw[j_ (λz=>h2 (Sum.inl.inj z))];refine⟨decide (b<b'),rfl,?_⟩;rw[Sk];constructor
   .intro h;exact .inr ⟨rfl,.inl h⟩
   .rintro(h | ⟨_,h | ⟨h,_⟩⟩)
    .lia
    .exact h
    .exact absurd h h2
 .rw[j_ (λz=>h1 (Sum.inl.inj z))];refine⟨decide (a<a'),rfl,?_⟩;rw[Sk];constructor
  .intro h;exact .inl h
  .rintro(h | ⟨h,_⟩)
   .exact h
   .exact absurd h h1
theorem Li(x y:Bool)(n n':Nat):∃q,fF [.inr (if x=true then sDn else uN),.inl (n:Int)] [.inr (if y=true then sDn else uN),.inl (n':Int)]=some q/\(q=true↔(x=false/\y=true)\/(x=y/\n<n')):=by
 cases x<;>cases y
 .exact⟨decide (n<n'),(by rw[me,i_ rfl,so]),by simp⟩
 .exact⟨true,(by show fF [.inr uN,_] [.inr sDn,_]=_;rw[me,j_ QN];exact OV),by simp⟩
 .exact⟨false,(by show fF [.inr sDn,_] [.inr uN,_]=_;rw[me,j_ (SR QN)];exact On),by simp⟩
 .exact⟨decide (n<n'),(by rw[me,i_ rfl,so]),by simp⟩
theorem vD(s t:Sh):∃q,fF s.ks t.ks=some q/\(q=true↔rX s t):=by
 obtain⟨q,h1,h2⟩:=Li s.dn t.dn s.n t.n;obtain⟨r,h3,h4⟩:=FL s.a s.b t.a t.b _ _ q h1;exact⟨r,h3,by rw[h4,h2];rfl⟩
theorem CA(h:¬rX s t):fF s.ks t.ks=some false:=by
 obtain⟨q,h1,h2⟩:=vD s t;cases q
 .exact h1
 .exact absurd (h2.mp rfl) h
theorem wI(h:rX s t):fF s.ks t.ks=some true:=by
 obtain⟨q,h1,h2⟩:=vD s t;rw[h1,h2.mpr h]
theorem pC(h:rX s t):¬rX t s:=by
 obtain⟨a,b,dn,n⟩:=s;obtain⟨a',b',JT,n'⟩:=t;unfold rX at *;simp only at *;intro h';cases dn<;>cases JT<;>simp at h h'<;>lia
theorem x9(h:¬rX s t)(h2:¬rX t s):s=t:=by
 obtain⟨a,b,dn,n⟩:=s;obtain⟨a',b',JT,n'⟩:=t;unfold rX at *;simp only at *;have e1:a=a':=by lia
 subst e1;have e2:b=b':=by lia
 subst e2;cases dn<;>cases JT<;>simp at h h2
 .rw[show n=n' by lia]
 .rw[show n=n' by lia]
def Sh.rz(s:Sh):Int:=if s.dn=true then s.a+s.n-1 else s.a
def Sh.cz(s:Sh):Int:=if s.dn=true then s.b else s.b+s.n-1
def QL(i j k:Int):Int:=if j>i then(if k>j then k else j)else(if k>i then k else i)
def oo(s t:Sh):Int:=QL (t.a-s.rz) (s.a-t.rz) 0
def ux(s t:Sh):Int:=QL (t.b-s.cz) (s.b-t.cz) 0
theorem FH(s t:Sh):m_rows_between [s.d,t.d]=some (.int (oo s t)):=by
 obtain⟨a,b,dn,n⟩:=s;obtain⟨a',b',JT,n'⟩:=t;cases dn<;>cases JT<;>rfl
theorem DM(s t:Sh):m_columns_between [s.d,t.d]=some (.int (ux s t)):=by
 obtain⟨a,b,dn,n⟩:=s;obtain⟨a',b',JT,n'⟩:=t;cases dn<;>cases JT<;>rfl
def wN(r:Str)(s t:Sh):Bool:=if r=rY then decide (0<oo s t+ux s t)else if r=Q7 then decide (1<oo s t+ux s t)else decide (1<(if ux s t>oo s t then ux s t else oo s t))
theorem DK(r:Str)(hr:ku r)(s t:Sh):m_keep [.str r,s.d,t.d]=some (.bl (wN r s t)):=by
 have e1:setF 3 (λenv=>((ab ag (ab aj fNil)) env).bind m_rows_between) (cb 5 [.str r,s.d,t.d])=some (.nx [.F (.str r),.F s.d,.F t.d,.F (.int (oo s t)),.un]):=b0 ((call_v (ay rfl (ay rfl bD))).trans (FH s t));have e2:setF 4 (λenv=>((ab ag (ab aj fNil)) env).bind m_columns_between) [.F (.str r),.F s.d,.F t.d,.F (.int (oo s t)),.un]=some (.nx [.F (.str r),.F s.d,.F t.d,.F (.int (oo s t)),.F (.int (ux s t))]):=b0 ((call_v (ay rfl (ay rfl bD))).trans (DM s t));refine bR ((aK e1).trans ((aK e2).trans ?_));unfold wN;rcases hr with rfl | rfl | rfl
 .rw[i_ rfl];exact ji ((hV rfl).trans (cB ((br (k6 _ _) rfl).trans (ES _ _))))
 .rw[j_ (by decide),i_ rfl];exact(aK ((cm rfl).trans rfl)).trans (ji ((hV rfl).trans (cB ((br (k6 _ _) rfl).trans (ES _ _)))))
 .rw[j_ (by decide),j_ (by decide)];exact(aK ((cm rfl).trans rfl)).trans ((aK ((cm rfl).trans rfl)).trans (cB ((br (x:=.int (if ux s t>oo s t then ux s t else oo s t)) rfl rfl).trans (ES _ _))))
theorem jf:∀{l:List α},(∀a∈l,f a=g a)->l.flatMap f=l.flatMap g
 | [],_=>rfl
 | a::l,h=>by rw[S3,S3,h a f_,jf λx hx=>h x (d_ _ hx)]
def eD(R C:Nat):VN:=(List.range R).flatMap λ(a:Nat)=>(List.range C).map λ(b:Nat)=>((a:Int),(b:Int))
theorem lY(R C:Nat):(eD R C).length<=C*R:=by
 have h:=d7 (g:=λ(a:Nat)=>(List.range C).map λ(b:Nat)=>((a:Int),(b:Int))) (B:=C) (List.range R) λa _=>by simp
 rwa [Ub]at h
def LZ:D->D->D
 | .int a,.int b=>cel (a,b)
 | _,_=>.non
theorem uX(R C:Nat):(aU 0 R).flatMap (λx=>(aU 0 C).map (LZ x))=(eD R C).map cel:=by
 unfold eD;rw[zZ,VA];congr 1;funext a;rw[qC,Q_]
 rfl
theorem tL(R C:Nat)(hR:R<=60)(hC:C<=60):m_all_cells [.tup [.int R,.int C]]=some (.lst ((eD R C).map cel)):=by
 have hl:((eD R C).map cel).length<=16000000:=by
  have h1:=lY R C;have h2:=TR hC hR;rw[c_];lia
 refine bR ((aK (tZ (ds:=[.int R,.int C]) rfl rfl)).trans (cB (be (ds:=aU 0 R) (ia (n:=R) rfl (by lia)) rfl ?_ hl)));rw[<- uX];refine q9 (λx=>(aU 0 C).map (LZ x)) _ λd hd=>?_;obtain⟨i,hi,rfl⟩:=lO.mp hd;refine⟨[.F (.int i),.un,.F (.int C)],rfl,rfl,CJ (ds:=aU 0 C) (ia (n:=C) rfl (by lia)) rfl (fW _ _ λd hd=>?_)⟩;obtain⟨j,hj,rfl⟩:=lO.mp hd;exact⟨_,rfl,rfl⟩
def both(l:Nat)(p:VY):List Sh:=[⟨p.1,p.2,false,l⟩,⟨p.1,p.2,true,l⟩]
def Gg(l:Nat):D->Wf
 | .tup [.int a,.int b]=>(both l (a,b)).map Sh.d
 | _=>[]
theorem oF(l:Nat):∀(ps:VN),(ps.map cel).flatMap (Gg l)=(ps.flatMap (both l)).map Sh.d
 | []=>rfl
 | p::ps=>by rw[B_,S3,oF l ps,S3,Sg];rfl
theorem D5(R C:Nat)(a b:Nat)(ha:a<R)(hb:b<C)(l:Nat)(hl:1<=l)(h8:l<=8)(dn:Bool):m_is_ship [.tup [.int R,.int C],Sh.d ⟨a,b,dn,l⟩]=some (.bl (if dn=true then decide ((1:Int)<l)&&decide ((a:Int)+l<=R)else decide ((b:Int)+l<=C))):=by
 have z:m_is_size [.int l]=some (.bl true):=bR (cB ((Bu rfl).trans ((Hm (x:=.int 1) (y:=.int l) (w:=.int 8) rfl rfl rfl (zi _ _) (zi _ _)).trans (by rw[x_ (by lia),x_ (by lia)];rfl))));have c:m_is_cell [.tup [.int R,.int C],.tup [.int a,.int b]]=some (.bl true):=by
  refine bR ((aK ((cm rfl).trans rfl)).trans ((aK (tZ (ds:=[.int a,.int b]) rfl rfl)).trans (cB ?_)));refine(Bu rfl).trans ((Bu rfl).trans ((GK (Hm (x:=.int 0) (y:=.int a) (w:=.int R) rfl rfl rfl (zi _ _) (AN _ _)) λ_=>Hm (x:=.int 0) (y:=.int b) (w:=.int C) rfl rfl rfl (zi _ _) (AN _ _)).trans ?_));rw[x_ (by lia),x_ (by lia),x_ (by lia),x_ (by lia)];rfl
 refine bR ((aK ((cm rfl).trans rfl)).trans ((aK (tZ (ds:=[.int a,.int b,.str (Sh.w ⟨a,b,dn,l⟩),.int l]) rfl rfl)).trans ?_));refine(aK ((cm (GL (p:=false) (q:=false) (by cases dn<;>rfl) λ_=>GL (p:=false) (q:=false) (mZ (b:=true) (cM ((call_v (ay rfl bD)).trans z))) λ_=>mZ (b:=true) (cM ((call_v (ay rfl (ay (AJ (ay rfl (ay rfl bD))) bD))).trans c)))).trans rfl)).trans ?_;cases dn
 .exact(aK ((cm rfl).trans rfl)).trans (cB ((br (k6 _ _) rfl).trans (zi _ _)))
 .exact ji ((hV rfl).trans (cB (GK rfl λ_=>(br (k6 _ _) rfl).trans (zi _ _))))
def NQ(R C:Nat)(s:Sh):Bool:=if s.dn=true then decide ((1:Int)<s.n)&&decide (s.a+s.n<=R)else decide (s.b+s.n<=C)
theorem tN(R C l:Nat):((eD R C).flatMap (both l)).filter (NQ R C)=aT R C l:=by
 unfold eD aT;rw[List.flatMap_assoc,List.filter_flatMap];refine jf λa _=>?_;rw[Vz,List.filter_flatMap];refine jf λb _=>?_;unfold both atS;rw[SM,SM,List.filter_nil];have e1:NQ R C ⟨a,b,false,l⟩=decide ((b:Int)+l<=C):=rfl;have e2:NQ R C ⟨a,b,true,l⟩=(decide ((1:Int)<l)&&decide ((a:Int)+l<=R)):=rfl;have e3:(1<l)↔((1:Int)<l):=by lia
 simp only[e1,e2,e3]
 by_cases h1:(b:Int)+l<=C<;>by_cases h2:(a:Int)+l<=R<;>by_cases h3:(1:Int)<l<;>simp only[h1,h2,h3,and_self,and_true,and_false,decide_true,decide_false,Bool.and_true,Va,J_,TK,SA,G_,SV,List.singleton_append]
theorem b8(f g:α->D)(p:α->Bool):∀(xs:List α),(∀x∈xs,∃e1,t (f x) env=some e1/\c e1=some (p x)/\(p x=true->k e1=some [g x]))->dN t c k env (xs.map f)=some ((xs.filter p).map g)
 | [],_=>rfl
 | x::xs,h=>by
  obtain⟨e1,h1,h2,h3⟩:=h x f_;have ih:=b8 f g p xs λy hy=>h y (d_ _ hy);show dN _ _ _ _ (f x::xs.map f)=_;unfold dN;rw[h1];show(c e1).bind _=_;rw[h2];cases hp:p x with
  | true=>
   show(if true=true then k e1 else some []).bind _=_;rw[i_ rfl,h3 hp];show(dN t c k env (xs.map f)).bind _=_;rw[ih,SM,i_ hp];rfl
  | false=>
   simp only[z_,J_,SA,ih,SV,SM,hp]
theorem v9(R C:Nat)(hR:R<=8)(hC:C<=8)(l:Nat)(hl:1<=l)(h8:l<=8):m_ships_of [.tup [.int R,.int C],.int l]=some (.lst ((aT R C l).map Sh.d)):=by
 have hlen:((aT R C l).map Sh.d).length<=16000000:=by
  have h1:=o3 R C l;have h2:=TR (TR (l_ 2) hC) hR;rw[c_];lia
 have hlen2:(((eD R C).flatMap (both l)).map Sh.d).length<=16000000:=by
  have h1:=d7 (g:=both l) (B:=2) (eD R C) λp _=>by unfold both;simp
  have h2:=lY R C;have h3:=TR hC hR;rw[c_];lia
 have e1:setF 2 (aG (cw (λenv=>((ab af fNil) env).bind m_all_cells)) [0,1] (rT [0,1]) Wl (dH (nE (fC qb)) [2] (aZ 2) Wl (ax (a7 (ab af (ab ag (ab aj (ab aE fNil))))))) 3 [1]) (cb 3 [.tup [.int R,.int C],.int l]) =
   some (.nx [.F (.tup [.int R,.int C]),.F (.int l),.F (.lst (((eD R C).flatMap (both l)).map Sh.d))]):=by
  refine b0 (be (bG ((call_v (ay rfl bD)).trans (tL R C (by lia) (by lia)))) rfl ?_ hlen2);rw[<- oF];refine q9 (Gg l) _ λd hd=>?_;obtain⟨p,hp,rfl⟩:=E_.mp hd;exact⟨[.F (.int p.1),.F (.int p.2),.un,.F (.int l)],rfl,rfl,rfl⟩
 refine bR ((aK e1).trans (cB (be (bG rfl) rfl ?_ hlen)));have:=b8 (t:=aZ 0) (c:=fB (λenv=>((ab ag (ab af fNil)) env).bind m_is_ship)) (k:=ax af) (env:=[.un,.F (.tup [.int R,.int C])]) Sh.d Sh.d (NQ R C) ((eD R C).flatMap (both l)) λs hs=>by
  obtain⟨p,hp,hs⟩:=TQ.mp hs;obtain⟨a,ha,hp⟩:=TQ.mp hp;obtain⟨b,hb,rfl⟩:=E_.mp hp;have k:=λdn=>D5 R C a b (SQ.mp ha) (SQ.mp hb) l hl h8 dn;refine⟨[.F s.d,.F (.tup [.int R,.int C])],rfl,cM ((call_v (ay rfl (ay rfl bD))).trans ?_),λ_=>rfl⟩;rcases o_.mp hs with rfl | hs
  .exact k false
  .rw[k_.mp hs];exact k true
 rw[tN]at this;exact this
instance (s t:Sh):Decidable (rX s t):=by unfold rX;infer_instance
def vn(fl:VW):D:=.tup (fl.map λ(n:Nat)=>.int n)
def hidD(h:List Sh):D:=.tup (h.map Sh.d)
theorem B1(h:f env=some (.tup xs))(h2:g env=some (.tup ys))(hl:xs.length+ys.length<=16000000):ak tR f g env=some (.tup (xs++ys)):=by
 rw[br h h2];show(if xs.length+ys.length<=16000000 then _ else _)=_;rw[i_ hl]
theorem oZ(f:α->D)(I:Wf->En->Prop)(g:α->Wf)(B M:Nat):∀(xs:List α)(acc:Wf)(env:En),I acc env->acc.length+B*xs.length<=M->(∀x∈xs,(g x).length<=B/\∀acc e,I acc e->acc.length+B<=M->∃e1,(t (f x) e).bind body=some (.nx e1)/\I (acc++g x) e1)->∃e2,dA t body (xs.map f) env=some (.nx e2)/\I (acc++xs.flatMap g) e2
 | [],acc,env,h,_,_=>⟨env,rfl,by rw[List.flatMap_nil,G_];exact h⟩
 | x::xs,acc,env,h,hl,hb=>by
  obtain⟨h1,h2⟩:=hb x f_;rw[m_,Nat.mul_succ]at hl;obtain⟨e1,h3,h4⟩:=h2 acc env h (by lia);obtain⟨e0,h5,h6⟩:=a_.mp h3;have hh:dA t body ((x::xs).map f) env=dA t body (xs.map f) e1:=by
   show(t (f x) env).bind (λe1=>(body e1).bind _)=_;rw[h5];show(body e0).bind _=_;rw[h6]
   rfl
  obtain⟨e2,h7,h8⟩:=oZ f I g B M xs (acc++g x) e1 h4 (by rw[h_];lia) λy hy=>hb y (d_ _ hy);refine⟨e2,hh.trans h7,?_⟩;rw[S3,<- Su];exact h8
theorem zY(n:Nat):aU 0 n=(List.range n).map λ(i:Nat)=>D.int i:=by
 have:=qC (g:=id) n;rw[List.map_id]at this;exact this
theorem cP(f g:α->D):∀(xs:List α),(∀x∈xs,∃e1,t (f x) env=some e1/\k e1=some [g x])->dN t Wl k env (xs.map f)=some (xs.map g)
 | [],_=>rfl
 | x::xs,h=>by
  obtain⟨e1,h1,h3⟩:=h x f_;have i1:=cP f g xs λy hy=>h y (d_ _ hy);show dN _ _ _ _ (f x::xs.map f)=_;unfold dN;rw[h1];show(if true=true then k e1 else some []).bind _=_;rw[i_ rfl,h3];show(dN t Wl k env (xs.map f)).bind _=_;rw[i1];rfl
theorem jx(R C:Nat)(hR:R<=4)(hC:C<=5)(l:Nat):(aT R C l).length<=40:=by
 have h1:=o3 R C l;have h2:=TR (TR (l_ 2) hC) hR
 lia
theorem lQ(h:s∈aT R C l):s.n=l:=(zb.mp h).2.1
def Dn(ru:Str)(s t:Sh):Prop:=(t.n=s.n->rX s t)/\wN ru s t=true
instance (ru:Str)(s t:Sh):Decidable (Dn ru s t):=by unfold Dn;infer_instance
structure PL(R C:Nat)(fl:List Nat)(ru:Str):Prop where
 r0:0<R
 r4:R<=4
 c0:0<C
 c5:C<=5
 l0:0<fl.length
 l3:fl.length<=3
 sz:∀n∈fl,1<=n/\n<=4
 up:fl.Pairwise (·>=·)
 ru:ku ru
theorem uz:∀(xs ys:List L2.Key),om xs ys=(fF ys xs).map (!·)
 | [],[]=>rfl
 | [],_::_=>rfl
 | _::_,[]=>rfl
 | x::xs,y::ys=>by
  unfold om fF
  by_cases h:x=y
  .rw[i_ h,i_ h.symm];exact uz xs ys
  .rw[j_ h,j_ (SR h)];cases x<;>cases y<;>simp[Nz,ER];rw[SJ];simp
theorem Ly(s t:Sh):KS t.d s.d=some (.bl (!decide (rX s t))):=by
 obtain⟨q,h1,h2⟩:=vD s t;show(om t.ks s.ks).bind _=_;rw[uz,h1,show decide (rX s t)=q by cases q<;>simp_all];rfl
theorem yI(ru:Str)(hr:ku ru)(s t:Sh):m_may_follow [.str ru,s.d,t.d]=some (.bl (decide (Dn ru s t))):=by
 have t1:fB (ak gv (ak aV aj Wk) (ak aV ag Wk)) (cb 3 [.str ru,s.d,t.d])=some ((t.n:Int)==s.n):=rfl;have t2:fB (ak KS aj ag) (cb 3 [.str ru,s.d,t.d])=some (!decide (rX s t)):=cM ((br rfl rfl).trans (Ly s t));have t3:=AA t1 λ_=>t2;have hk:=DK ru hr s t;refine bR ?_;cases hb:(((t.n:Int)==s.n)&&!decide (rX s t))with
 | true=>
  rw[hb]at t3;have:decide (Dn ru s t)=false:=by
   rw[C_]at hb;rw[decide_eq_false_iff_not];intro hf;have h1:t.n=s.n:=by have:=hb.1;rw[TZ]at this;lia
   simpa [hf.1 h1]using hb.2
  rw[this];exact ji ((hV t3).trans rfl)
 | false=>
  rw[hb]at t3;have:decide (Dn ru s t)=wN ru s t:=by
   rw[SJ,Sk];refine⟨λh=>h.2,λh=>⟨λe=>?_,h⟩⟩;rw[e]at hb;simpa using hb
  rw[this];exact(aK ((cm t3).trans rfl)).trans (cB ((call_v rfl).trans hk))
def rF(cs:List (List Sh)):Wf:=cs.map λA=>.lst (A.map Sh.d)
def gH(ru:Str)(s:Sh)(cs:List (List Sh)):List (List Sh):=cs.map λA=>A.filter λt=>decide (Dn ru s t)
def cH(ru:Str):Nat->List (List Sh)->List (List Sh)
 | 0,_=>[]
 | _+1,[]=>[]
 | _+1,[A]=>A.map λs=>[s]
 | n+1,A::B::r=>A.flatMap λs=>(cH ru n (gH ru s (B::r))).map λh=>s::h
theorem eC(ru:Str)(s:Sh)(cs:List (List Sh)):(gH ru s cs).length=cs.length:=by unfold gH;simp
theorem ro(h:∀A∈cs,A.length<=M):∀A∈gH ru s cs,A.length<=M:=λA hA=>by
 obtain⟨B,hB,rfl⟩:=E_.mp hA;exact M_ (Sj _ _) (h B hB)
theorem nv(ru:Str)(hM:1<=M):∀(n:Nat)(cs:List (List Sh)),(∀A∈cs,A.length<=M)->(cH ru n cs).length<=M ^ cs.length
 | 0,cs,_=>Ts _
 | n+1,[],_=>Ts _
 | n+1,[A],h=>by
  have:=h A f_;unfold cH;simp only[c_,m_,SU,Tt,Nat.pow_one];exact this
 | n+1,A::B::r,h=>by
  have hA:=h A f_;have:=d7 (g:=λs=>(cH ru n (gH ru s (B::r))).map λh=>s::h) (B:=M ^ (B::r).length) A λs _=>by
   rw[c_];have:=nv ru hM n (gH ru s (B::r)) (ro λL hL=>h L (d_ _ hL));rwa [eC]at this
  unfold cH;refine M_ this ?_;rw[m_ (a:=A),TU];exact U8 _ hA
theorem gM(ru:Str):∀(n:Nat)(cs:List (List Sh))(h:List Sh),h∈cH ru n cs->h.length=cs.length
 | 0,cs,h,hh=>by cases hh
 | n+1,[],h,hh=>by cases hh
 | n+1,[A],h,hh=>by
  obtain⟨s,_,rfl⟩:=E_.mp hh
  rfl
 | n+1,A::B::r,h,hh=>by
  obtain⟨s,_,h2⟩:=TQ.mp hh;obtain⟨g,hg,rfl⟩:=E_.mp h2;have:=gM ru n _ g hg;rw[eC]at this;simp only[m_]at *
  lia
theorem O2(ru:Str)(hr:ku ru)(s:Sh)(A:List Sh)(hA:A.length<=16000000):aG (cw af) [0] (aZ 0) (fB (λenv=>((ab ag (ab aj (ab af fNil))) env).bind m_may_follow)) (ax af) 1 [1,2] [.F (.lst (A.map Sh.d)),.F (.str ru),.F s.d]=some (.lst ((A.filter λt=>decide (Dn ru s t)).map Sh.d)):=by
 have g1:=b8 (t:=aZ 0) (c:=fB (λenv=>((ab ag (ab aj (ab af fNil))) env).bind m_may_follow)) (k:=ax af) (env:=[.un,.F (.str ru),.F s.d]) Sh.d Sh.d (λt=>decide (Dn ru s t)) A λt ht=>⟨[.F t.d,.F (.str ru),.F s.d],rfl,cM ((call_v (ay rfl (ay rfl (ay rfl bD)))).trans (yI ru hr s t)),λ_=>rfl⟩;exact be (bG rfl) rfl g1 (by rw[c_];exact M_ (Sj _ _) hA)
theorem Ei(ru:Str)(hr:ku ru)(s:Sh)(cs:List (List Sh))(hcs:∀A∈cs,A.length<=16000000)(hl:cs.length<=16000000)(s1 s2 s4 s6:Slot) :
  aG (cw aE) [0] (aZ 0) Wl (ax (aG (cw af) [0] (aZ 0) (fB (λenv=>((ab ag (ab aj (ab af fNil))) env).bind m_may_follow)) (ax af) 1 [1,2])) 1 [0,5] [.F (.str ru),s1,s2,.F (.lst (rF cs)),s4,.F s.d,s6]=some (.lst (rF (gH ru s cs))):=by
 have g1:=cP (t:=aZ 0) (k:=ax (aG (cw af) [0] (aZ 0) (fB (λenv=>((ab ag (ab aj (ab af fNil))) env).bind m_may_follow)) (ax af) 1 [1,2])) (env:=[.un,.F (.str ru),.F s.d]) (λA:List Sh=>D.lst (A.map Sh.d)) (λA=>.lst ((A.filter λt=>decide (Dn ru s t)).map Sh.d)) cs λA hA=>⟨[.F (.lst (A.map Sh.d)),.F (.str ru),.F s.d],rfl,dP (O2 ru hr s A (hcs A hA))⟩;have e:(rF (gH ru s cs))=cs.map λA=>D.lst ((A.filter λt=>decide (Dn ru s t)).map Sh.d):=by unfold rF gH;rw[Q_];rfl
 rw[e];exact be (bG rfl) rfl g1 (by rw[c_];exact hl)
theorem F3(h:env[i]?=some (.O (.L ds)))(hf:f env=some (.lst es))(hl:ds.length+es.length<=16000000):ja i f env=some (.nx (env.set i (.O (.L (ds++es))))):=by
 unfold ja;rw[h];show(f env).bind _=_;rw[hf];show(if ds.length+es.length<=16000000 then _ else _)=_;rw[i_ hl]
theorem tQ(ru:Str)(hr:ku ru)(hM:1<=M):∀(n:Nat)(cs:List (List Sh)),n<=100->cs≠[]->cs.length<=n->(∀A∈cs,A.length<=M)->M ^ cs.length<=2000000->a9 n [.str ru,.lst (rF cs)]=some (.lst ((cH ru n cs).map hidD))
 | 0,cs,_,hne,hl,_,_=>by cases cs with | nil=>exact absurd rfl hne | cons a b=>simp at hl
 | n+1,[],_,hne,_,_,_=>absurd rfl hne
 | n+1,[A],_,_,_,hA,hb=>by
  have hA1:=hA A f_;simp only[m_,SU,Tt,Nat.pow_one]at hb;have g1:=cP (t:=aZ 0) (k:=ax (a7 (ab af fNil))) (env:=[.un]) Sh.d (λs=>hidD [s]) A λs hs=>⟨[.F s.d],rfl,rfl⟩;have e:(cH ru (n+1) [A]).map hidD=A.map λs=>hidD [s]:=by show(A.map λs=>[s]).map hidD=_;rw[Q_];rfl
  rw[e];show bF (cQ (a9 n)) 7 _=_;exact bR ((aK (e:=[.F (.str ru),.F (.lst (rF [A])),.F (.lst (A.map Sh.d)),.F (.lst []),.un,.un,.un]) rfl).trans (ji ((hV rfl).trans (cB (be (bG rfl) rfl g1 (by rw[c_];lia))))))
 | n+1,A::B::r,hn,_,hl,hA,hb=>by
  have hA1:=hA A f_;have hpow:M ^ (A::B::r).length=M ^ (B::r).length*M:=by rw[m_ (a:=A),TU]
  have hb1:M ^ (B::r).length<=2000000:=M_ (M_ (Nat.le_mul_of_pos_right _ hM) (Nat.le_of_eq hpow.symm)) hb;have hM2:M<=2000000:=M_ (by rw[m_,TU];exact Nat.le_mul_of_pos_left _ (Nat.pow_pos hM)) hb1;have hl2:(B::r).length<=n:=by simpa using hl
  have hln:(B::r).length<=16000000:=by lia
  have loop:=oZ (t:=aZ 5) (body:=eS (a9 n)) Sh.d (λacc e=>∃(s5 s6:Slot),e=[.F (.str ru),.F (.lst (rF (A::B::r))),.F (.lst (A.map Sh.d)),.F (.lst (rF (B::r))),.O (.L acc),s5,s6]) (λs=>((cH ru n (gH ru s (B::r))).map λh=>s::h).map hidD) (M ^ (B::r).length) 4000000 A [] [.F (.str ru),.F (.lst (rF (A::B::r))),.F (.lst (A.map Sh.d)),.F (.lst (rF (B::r))),.O (.L []),.un,.un] ⟨_,_,rfl⟩ (by
    have:=U8 (M ^ (B::r).length) hA1;rw[SU];lia) λs hs=>by
   have l1:=nv ru hM n (gH ru s (B::r)) (ro λL hL=>hA L (d_ _ hL));rw[eC]at l1;refine⟨by rw[c_,c_];exact l1,λacc e ⟨s5,s6,he⟩ hacc=>?_⟩;subst he;have c1:=Ei ru hr s (B::r) (λL hL=>by have:=hA L (d_ _ hL);lia) hln (.F (.lst (rF (A::B::r)))) (.F (.lst (A.map Sh.d))) (.O (.L acc)) s6;have ih:=tQ ru hr hM n (gH ru s (B::r)) (by lia) (λz=>by have:=S0 List.length z;rw[eC]at this;simp at this) (by rw[eC];exact hl2) (ro λL hL=>hA L (d_ _ hL)) (by rw[eC];exact hb1);have g1:=cP (t:=aZ 0) (k:=ax (ak tR (a7 (ab ag fNil)) af)) (env:=[.un,.F s.d]) hidD (λh=>hidD (s::h)) (cH ru n (gH ru s (B::r))) λh hh=>⟨[.F (hidD h),.F s.d],rfl,dP (B1 (xs:=[s.d]) (ys:=h.map Sh.d) rfl rfl (by
    rw[c_];have:=gM ru n (gH ru s (B::r)) h hh;rw[eC]at this;simp only[m_,SU]at *
    lia))⟩
   have em:((cH ru n (gH ru s (B::r))).map λh=>s::h).map hidD=(cH ru n (gH ru s (B::r))).map λh=>hidD (s::h):=by rw[Q_];rfl
   rw[em];refine⟨_,lr (e0:=[.F (.str ru),.F (.lst (rF (A::B::r))),.F (.lst (A.map Sh.d)),.F (.lst (rF (B::r))),.O (.L acc),.F s.d,s6]) rfl ((aK (b0 c1)).trans (F3 (ds:=acc) rfl (be (bG ((call_v (ay rfl (ay rfl bD))).trans ih)) rfl g1 (by rw[c_];lia)) (by rw[c_];lia))),_,_,rfl⟩
  obtain⟨e2,h1,s5,s6,rfl⟩:=loop;have e:(cH ru (n+1) (A::B::r)).map hidD=A.flatMap λs=>((cH ru n (gH ru s (B::r))).map λh=>s::h).map hidD:=by
   show(A.flatMap λs=>(cH ru n (gH ru s (B::r))).map λh=>s::h).map hidD=_;rw[VA]
  rw[e];show bF (cQ (a9 n)) 7 _=_;exact bR ((aK (e:=[.F (.str ru),.F (.lst (rF (A::B::r))),.F (.lst (A.map Sh.d)),.F (.lst (rF (B::r))),.un,.un,.un]) rfl).trans ((aK ((cm rfl).trans rfl)).trans ((aK (qQ rfl)).trans ((aK ((fG (bG rfl)).trans h1)).trans rfl))))
abbrev Pt:=Int×Int
def lh(R C:Nat):List Pt:=(List.range R).flatMap λi=>(List.range C).map λj=>(((i:Nat):Int),((j:Nat):Int))
theorem AE:∀R:Fin 5,∀C:Fin 6,(lh R C).Nodup/\(lh R C).length<=20:=by decide
theorem wU(h:f env=some (.lst ds)):Mz f env=some (lb 0 ds):=by unfold Mz;rw[h];rfl
theorem F5(h:f env=some (.lst es))(h1:env[i]?=some (.O (.L ds)))(hl:ds.length+es.length<=16000000):ja i f env=some (.nx (env.set i (.O (.L (ds++es))))):=F3 h1 h hl
theorem Jo(R C:Nat)(hR:R<=4)(hC:C<=5):m__law_sheet_cells [.tup [.int R,.int C]]=some (.lst ((lh R C).map cel)):=by
 have hbd:([]:Wf).length+C*(aU 0 R).length<=8000:=by
  have h1:=TR hC hR;rw[lK,SU,Tt];exact M_ h1 (by decide)
 obtain⟨e2,h1,s2,h2⟩:=sV (t:=aZ 2) (body:=dG) (λacc e=>∃s2,e=[.F (.tup [.int R,.int C]),.O (.L acc),s2]) (λd=>(aU 0 C).map λy=>.tup [d,y]) C 8000 (aU 0 R) [] _ ⟨.un,rfl⟩ hbd λd hd=>⟨by rw[c_,lK];exact l_ _,λacc e ⟨s2,he⟩ hl=>by
  subst he;refine⟨_,lr (e0:=[.F (.tup [.int R,.int C]),.O (.L acc),.F d]) rfl (F5 (es:=(aU 0 C).map λy=>.tup [d,y]) (be (ia (n:=C) rfl (by lia)) rfl (fW (λy=>.tup [d,y]) _ λy hy=>⟨_,rfl,rfl⟩) (by rw[c_,lK];lia)) rfl (by rw[c_,lK];lia)),⟨_,rfl⟩⟩⟩
 subst h2;have he:((aU 0 R).flatMap λd=>(aU 0 C).map λy=>.tup [d,y])=(lh R C).map cel:=by
  unfold aU lh cel;simp[Vz,VA,Q_,Function.comp_def]
 rw[SV,he]at h1;exact bR ((aK (qQ rfl)).trans ((aK ((fG (ia (n:=R) rfl (by lia))).trans h1)).trans rfl))
theorem vU(xs:List α)(k:Nat)(y:α):(insAt xs k y).Perm (y::xs):=by
 unfold insAt;have:=List.perm_middle (a:=y) (l₁:=xs.take k) (l₂:=xs.drop k);rwa [T9]at this
theorem Mg(h1:env[i]?=some (.O (.L ds)))(hk:fk env=some (.int j))(h:f env=some d)(h0:0<=j)(hj:j<=ds.length)(hl:ds.length<16000000):Ca i fk f env=some (.nx (env.set i (.O (.L (insAt ds j.toNat d))))):=by
 unfold Ca;rw[h1];show(fk env).bind _=_;rw[hk];show(f env).bind _=_;rw[h];show(if 0<=j/\j<=ds.length/\ds.length<16000000 then _ else _)=_;rw[i_ ⟨h0,hj,hl⟩]
theorem Cs(c:Int)(ps:List Pt)(hps:ps.length<=300):∃qs:List Pt,m__law_order [.int c,.lst (ps.map cel)]=some (.lst (qs.map cel))/\qs.Perm ps:=by
 obtain⟨e2,h1,qs,s3,s4,rfl,h3⟩:=qf (t:=rT [3,4]) (body:=gL) (λj e=>∃(qs:List Pt)(s3 s4:Slot),e=[.F (.int c),.F (.lst (ps.map cel)),.O (.L (qs.map cel)),s3,s4]/\qs.Perm (ps.take j)) (lb 0 (ps.map cel)) 0 _ ⟨[],.un,.un,rfl,.nil⟩ λi d e hd az=>by
  obtain⟨qs,s3,s4,he,h3⟩:=az;subst he;have hi:=(s_.mp hd).1;rw[jy,c_]at hi;have hx:(ps.map cel)[i]?=some (cel ps[i]):=by rw[u_,v_ hi];rfl
  rw[lZ hx]at hd;cases hd;simp only[Tt]at h3 ⊢;have hql:qs.length=i:=by rw[h3.length_eq,Uk];lia
  obtain⟨z,hz⟩:=xm c (3*(i:Int)+1) (by lia) (by lia);have m3:ak addI (ak mulI Wk aE) Wj [.F (.int c),.F (.lst (ps.map cel)),.O (.L (qs.map cel)),.F (.int i),.F (cel ps[i])]=some (.int (3*(i:Int)+1)):=(br ((br rfl rfl).trans (uY (by decide) (by decide) (by lia) (by lia))) rfl).trans (k6 _ _);have hp:(0:Int)<(i:Int)+1:=by lia
  have hk:ak modI (λenv=>((ab af (ab (ak addI (ak mulI Wk aE) Wj) fNil)) env).bind m__law_stir) (ak addI aE Wj) [.F (.int c),.F (.lst (ps.map cel)),.O (.L (qs.map cel)),.F (.int i),.F (cel ps[i])]=some (.int (z%((i:Int)+1))):=(br ((call_v (ay rfl (ay m3 bD))).trans hz) rfl).trans (jZ hp);have b1:=T5 z (Int.ne_of_gt hp);have b2:=Tf z hp;refine⟨_,lr (e0:=[.F (.int c),.F (.lst (ps.map cel)),.O (.L (qs.map cel)),.F (.int i),.F (cel ps[i])]) rfl (Mg rfl hk rfl b1 (by rw[c_];lia) (by rw[c_];lia)),insAt qs (z%((i:Int)+1)).toNat ps[i],.F (.int i),.F (cel ps[i]),?_,?_⟩
  .unfold insAt;simp[UV,List.map_drop]
  .refine(vU _ _ _).trans ((h3.cons _).trans ?_);rw[List.take_succ,v_ hi];exact(List.perm_append_comm (l₁:=[ps[i]]) (l₂:=ps.take i))
 rw[Tt,jy,c_,UQ]at h3;exact⟨qs,bR ((aK (qQ rfl)).trans ((aK ((fG (wU rfl)).trans h1)).trans rfl)),h3⟩
theorem AK(f:α->D)(g:β->D)(P:α->β->Prop):∀(xs:List α),(∀x∈xs,∃e1 y,t (f x) env=some e1/\k e1=some [g y]/\P x y)->∃ys:List β,dN t Wl k env (xs.map f)=some (ys.map g)/\ys.length=xs.length/\∀(i:Nat) x y,xs[i]?=some x->ys[i]?=some y->P x y
 | [],_=>⟨[],rfl,rfl,λi x y h=>by simp at h⟩
 | x::xs,h=>by
  obtain⟨e1,y,h1,h3,h4⟩:=h x f_;obtain⟨ys,i1,i2,i3⟩:=AK f g P xs λy hy=>h y (d_ _ hy);refine⟨y::ys,?_,by simp[i2],λi a b ha hb=>?_⟩
  .show dN _ _ _ _ (f x::xs.map f)=_;unfold dN;rw[h1];show(if true=true then k e1 else some []).bind _=_;rw[i_ rfl,h3];show(dN t Wl k env (xs.map f)).bind _=_;rw[i1];rfl
  .cases i with
   | zero=>cases ha;cases hb;exact h4
   | succ i=>exact i3 i a b (by simpa using ha) (by simpa using hb)
theorem lI:∀(xs:List α),(∀x∈xs,pl (f x)=true)->gK (xs.map f)=true
 | [],_=>rfl
 | x::xs,h=>by
  show gK (f x::xs.map f)=true;unfold gK;rw[h x f_,lI xs λy hy=>h y (d_ _ hy)];rfl
theorem mR(p:VY):pl (cel p)=true:=rfl
abbrev dg:Str:="water"
abbrev gC:Str:="hit"
abbrev gA:Str:="sunk"
def gD:List Sh->List Pt->Pt->Str
 | [],_,_=>dg
 | s::h,sh,p=>if p∈s.cs then(if ∀q∈s.cs,q∈sh then gA else gC)else gD h sh p
def walk(h:List Sh):List Pt->List Pt->VS
 | _,[]=>[]
 | pre,p::r=>gD h (pre++[p]) p::walk h (pre++[p]) r
theorem Bt(q p:Pt):dO (cel q) (cel p)=decide (q=p):=by
 obtain⟨a,b⟩:=q;obtain⟨c,d⟩:=p;unfold cel;simp only[dO,i8,Prod.mk.injEq,Bool.and_true];rw[SJ];simp
theorem kl(p:Pt)(cs:List Pt):inD (cel p) (cs.map cel)=decide (p∈cs):=by
 unfold inD;rw[List.any_map,SJ,Te,Sk];constructor
 .rintro⟨q,hq,he⟩;rw[Ur,Bt,Sk]at he;exact he▸hq
 .intro h;exact⟨p,h,by rw[Ur,Bt,Sk]⟩
theorem lE(p:Pt):ec (cel p)<=60:=M_ (EU (n:=0) λd hd=>by
 rcases o_.mp hd with rfl | hd
 .rw[xq];exact l_ _
 .cases k_.mp hd;rw[xq];exact l_ _) (by decide)
theorem f'(cs:List Pt):gK (cs.map cel)=true:=lI cs λp _=>mR p
theorem sg{f g:Fe}{env:En}{p:Pt}{cs:List Pt}(h1:f env=some (cel p))(h2:g env=some (.lst (cs.map cel))):ak (iV false) f g env=some (.bl (decide (p∈cs))):=Oq h1 h2 (lE p) (kl p cs) (by rw[mR,f'];rfl)
theorem G7(bd:D)(p:Pt)(sh:List Pt)(s:Sh)(hn:s.n<=1000):(p∈s.cs->cK [.F bd,.F (cel p),.F (.lst (sh.map cel)),.F (.lst (s.cs.map cel))]=some (.rt (.str (if ∀q∈s.cs,q∈sh then gA else gC))))/\(p∉s.cs->cK [.F bd,.F (cel p),.F (.lst (sh.map cel)),.F (.lst (s.cs.map cel))]=some (.nx [.F bd,.F (cel p),.F (.lst (sh.map cel)),.F (.lst (s.cs.map cel))])):=by
 have ht:fB (ak (iV false) ag aE) [.F bd,.F (cel p),.F (.lst (sh.map cel)),.F (.lst (s.cs.map cel))]=some (decide (p∈s.cs)):=cM (sg rfl rfl);refine⟨λhp=>?_,λhp=>(cm (ht.trans (by rw[R_ hp]))).trans rfl⟩;refine(hV (ht.trans (by rw[x_ hp]))).trans (cB ?_);have hc:aG (cw aE) [0] (aZ 0) Wl (ax (ak (iV false) af ag)) 1 [2] [.F bd,.F (cel p),.F (.lst (sh.map cel)),.F (.lst (s.cs.map cel))]=some (.lst ((s.cs.map λq=>decide (q∈sh)).map .bl)):=by
  refine be (bG rfl) rfl ?_ (by rw[c_,c_];unfold Sh.cs;simp;lia);have he:(s.cs.map λq=>decide (q∈sh)).map D.bl=(s.cs.map cel).map λd=>.bl (inD d (sh.map cel)):=by
   rw[Q_,Q_];exact Us λq _=>by rw[Ur,Ur,kl]
  rw[he];refine fW _ _ λd hd=>?_;obtain⟨q,hq,rfl⟩:=E_.mp hd;exact⟨_,rfl,dP (by rw[kl];exact sg rfl rfl)⟩
 have hb:(s.cs.map λq=>decide (q∈sh)).all id=decide (∀q∈s.cs,q∈sh):=by
  rw[List.all_map,SJ,P_,Sk];simp
 refine A3 (cM ((Am hc).trans (by rw[hb]))) (λh=>?_) (λh=>?_)
 .rw[i_ (H_ h)];rfl
 .rw[j_ (of_decide_eq_false h)];rfl
theorem xE(h:(t d env).bind body=some (.nx e1)):dA t body (d::ds) env=dA t body ds e1:=by
 obtain⟨e0,h5,h6⟩:=a_.mp h;show(t d env).bind (λe1=>(body e1).bind _)=_;rw[h5];show(body e0).bind _=_;rw[h6]
 rfl
theorem EO(h:(t d env).bind body=some (.rt x)):dA t body (d::ds) env=some (.rt x):=by
 obtain⟨e0,h5,h6⟩:=a_.mp h;show(t d env).bind (λe1=>(body e1).bind _)=_;rw[h5];show(body e0).bind _=_;rw[h6]
 rfl
theorem mV(bd:D)(p:Pt)(sh:List Pt):∀(h:List Sh)(s3:Slot),(∀s∈h,s.n<=1000)->(∃Oe,dA (aZ 3) cK (h.map λs=>.lst (s.cs.map cel)) [.F bd,.F (cel p),.F (.lst (sh.map cel)),s3]=some (.nx [.F bd,.F (cel p),.F (.lst (sh.map cel)),Oe])/\gD h sh p=dg)\/dA (aZ 3) cK (h.map λs=>.lst (s.cs.map cel)) [.F bd,.F (cel p),.F (.lst (sh.map cel)),s3]=some (.rt (.str (gD h sh p)))
 | [],s3,_=>.inl ⟨s3,rfl,rfl⟩
 | s::h,s3,hn=>by
  obtain⟨a1,a2⟩:=G7 bd p sh s (hn s f_)
  by_cases hp:p∈s.cs
  .right;unfold gD;rw[i_ hp];exact EO (lr (e0:=[.F bd,.F (cel p),.F (.lst (sh.map cel)),.F (.lst (s.cs.map cel))]) rfl (a1 hp))
  .unfold gD;rw[j_ hp,B_,xE (lr (e0:=[.F bd,.F (cel p),.F (.lst (sh.map cel)),.F (.lst (s.cs.map cel))]) rfl (a2 hp))];exact mV bd p sh h _ λt ht=>hn t (d_ _ ht)
theorem uw(h:List Sh)(hn:∀s∈h,s.n<=1000)(p:Pt)(sh:List Pt):m_answer_to [.lst (h.map λs=>.lst (s.cs.map cel)),cel p,.lst (sh.map cel)]=some (.str (gD h sh p)):=by
 rcases mV (.lst (h.map λs=>.lst (s.cs.map cel))) p sh h .un hn with ⟨Oe,h1,h2⟩ | h1
 .rw[h2];exact bR ((aK ((fG (bG rfl)).trans h1)).trans rfl)
 .exact bR (ji ((fG (bG rfl)).trans h1))
theorem EW(h1:t d env=some e1)(h3:k e1=some [x])(ih:dN t Wl k env ds=some ys):dN t Wl k env (d::ds)=some (x::ys):=by
 unfold dN;rw[h1];show(if true=true then k e1 else some []).bind _=_;rw[i_ rfl,h3];show(dN t Wl k env ds).bind _=_;rw[ih];rfl
theorem wR(h:List Sh)(hn:∀s∈h,s.n<=1000)(cs:List Pt):∀(rest pre:List Pt),cs=pre++rest->
  dN (rT [0,1]) Wl (ax (λenv=>((ab aj (ab ag (ab (rV cG aE oNone (dB (ak addI af Wj))) fNil))) env).bind m_answer_to)) [.un,.un,.F (.lst (h.map λs=>.lst (s.cs.map cel))),.F (.lst (cs.map cel))] (lb pre.length (rest.map cel))=some ((walk h pre rest).map .str)
 | [],pre,_=>rfl
 | p::rest,pre,hc=>by
  have ih:=wR h hn cs rest (pre++[p]) (by rw[hc];simp);have Ks:rV cG aE oNone (dB (ak addI af Wj)) [.F (.int pre.length),.F (cel p),.F (.lst (h.map λs=>.lst (s.cs.map cel))),.F (.lst (cs.map cel))]=some (.lst ((pre++[p]).map cel)):=by
   show some (D.lst (cutD (cs.map cel) none (some ((pre.length:Int)+1))))=_;rw[show(pre.length:Int)+1=((pre.length+1:Nat):Int) by lia,pD,<- UV,hc,show pre++p::rest=(pre++[p])++rest by simp,show pre.length+1=(pre++[p]).length by simp,List.take_left']
   rfl
  rw[h_,Si]at ih;show dN _ _ _ _ (.tup [.int (pre.length:Int),cel p]::lb (pre.length+1) (rest.map cel))=some (.str (gD h (pre++[p]) p)::(walk h (pre++[p]) rest).map .str);exact EW (e1:=[.F (.int pre.length),.F (cel p),.F (.lst (h.map λs=>.lst (s.cs.map cel))),.F (.lst (cs.map cel))]) rfl (dP ((call_v (ay rfl (ay rfl (ay Ks bD)))).trans (uw h hn p (pre++[p])))) ih
theorem sR(h:List Sh):∀(rest pre:List Pt),(walk h pre rest).length=rest.length
 | [],_=>rfl
 | p::rest,pre=>by show(walk h (pre++[p]) rest).length+1=_;rw[sR h rest];rfl
theorem vO(h:List Sh)(hn:∀s∈h,s.n<=1000)(hm:∀s:Sh,s.n<=1000->m [s.d]=some (.lst (s.cs.map cel))):dN (aZ 0) Wl (ax (λenv=>((ab af fNil) env).bind m)) [.un] (h.map Sh.d)=some (h.map λs=>.lst (s.cs.map cel)):=by
 obtain⟨ys,c1,c2,c3⟩:=AK (t:=aZ 0) (k:=ax (λenv=>((ab af fNil) env).bind m)) (env:=[.un]) Sh.d (λx:Wf=>D.lst x) (λs x=>x=s.cs.map cel) h λs hs=>⟨_,s.cs.map cel,rfl,dP ((call_v (ay rfl bD)).trans (hm s (hn s hs))),rfl⟩;rw[c1];congr 1;apply List.ext_getElem?;intro i;rw[u_,u_];cases hx:h[i]? with
 | none=>
  rw[List.getElem?_eq_none_iff]at hx;rw[So (by lia)];rfl
 | some s=>
  have hi:=(s_.mp hx).1;obtain⟨y,hy⟩:∃y,ys[i]?=some y:=⟨_,v_ (by lia)⟩;rw[hy,c3 i s y hx hy];rfl
theorem nU(h:List Sh)(hn:∀s∈h,s.n<=1000)(hl:h.length<=1000)(cs:List Pt)(hc:cs.length<=1000):m_answers_of [hidD h,.lst (cs.map cel)]=some (.lst ((walk h [] cs).map .str)):=by
 have g1:=vO h hn (m:=m_cells_of) fU;have g2:=wR h hn cs cs [] rfl;exact bR ((aK (b0 (be (oP rfl) rfl g1 (by rw[c_];lia)))).trans (cB (be (wU rfl) rfl g2 (by rw[c_,sR];lia))))
abbrev eW(h:List Sh)(cs:List Pt)(left found:Wf)(s5 s6 s7:Slot):En:=[.F (hidD h),.F (.lst (cs.map cel)),.O (.L left),.F (.lst (h.map λs=>.lst (s.cs.map cel))),.O (.L found),s5,s6,s7]
theorem sk:∀(xs ys:VS),i8 (xs.map .str) (ys.map .str)=decide (xs=ys)
 | [],[]=>rfl
 | [],y::ys=>rfl
 | x::xs,[]=>rfl
 | x::xs,y::ys=>by
  show i8 (.str x::xs.map .str) (.str y::ys.map .str)=_;unfold i8;rw[sk xs ys,show dO (.str x) (.str y)=(x==y) by unfold dO;rfl,SJ];simp
theorem CG(xs:VS):ec (.lst (xs.map .str))<=60:=M_ (ET (n:=0) λd hd=>by obtain⟨i,_,rfl⟩:=E_.mp hd;rw[wt];lia) (by decide)
theorem wu(xs:VS):pl (.lst (xs.map .str))=true:=by unfold pl;exact lI xs λx _=>by unfold pl;rfl
theorem EN(xs ys:VS):dO (.lst (xs.map .str)) (.lst (ys.map .str))=decide (xs=ys):=by rw[dO];exact sk xs ys
def dh(x:Pt×Str):D:=.tup [cel x.1,.str x.2]
theorem mX(rec:List (Pt×Str))(hl:rec.length<=1000):m_shot_cells [.lst (rec.map dh)]=some (.lst ((rec.map Prod.fst).map cel)):=by
 refine bR (cB (be (bG rfl) rfl ?_ (by rw[c_,c_];lia)));have he:(rec.map Prod.fst).map cel=(rec.map dh).map λd=>match d with | .tup [x,_]=>x | _=>.non:=by rw[Q_,Q_];rfl
 rw[he];refine fW _ _ λd hd=>?_;obtain⟨x,hx,rfl⟩:=E_.mp hd;exact⟨_,rfl,rfl⟩
theorem EK(h:List Sh)(hn:∀s∈h,s.n<=1000)(hl:h.length<=1000)(rec:List (Pt×Str))(hr:rec.length<=1000):m_fits [hidD h,.lst (rec.map dh)]=some (.bl (decide (walk h [] (rec.map Prod.fst)=rec.map Prod.snd))):=by
 have ha:=nU h hn hl (rec.map Prod.fst) (by rw[c_];exact hr);have hc:aG (cw ag) [0,1] (rT [0,1]) Wl (ax ag) 2 [] [.F (hidD h),.F (.lst (rec.map dh))]=some (.lst ((rec.map Prod.snd).map .str)):=by
  refine be (bG rfl) rfl ?_ (by rw[c_,c_];lia);have he:(rec.map Prod.snd).map D.str=(rec.map dh).map λd=>match d with | .tup [_,x]=>x | _=>.non:=by rw[Q_,Q_];rfl
  rw[he];refine fW _ _ λd hd=>?_;obtain⟨x,hx,rfl⟩:=E_.mp hd;exact⟨_,rfl,rfl⟩
 refine bR (cB (Jc ((call_v (ay rfl (ay ((call_v (ay rfl bD)).trans (mX rec hr)) bD))).trans ha) hc (Hi (CG _) (by rw[wu,wu];rfl)) (EN _ _)))
theorem Gm{f g:Fe}{env:En}{ds:Wf}{m:Nat}(h:g env=some (.lst ds))(hf:f env=some (.int (m:Int))):rV cG g oNone (dB f) env=some (.lst (ds.take m)):=by
 unfold rV dB;rw[h,z_];show((f env).bind _).bind _=_;rw[hf];show some (D.lst (cutD ds none (some (m:Int))))=_;rw[pD]
theorem Ij{f g:Fe}{env:En}{ds:Wf}{m:Nat}(h:g env=some (.lst ds))(hf:f env=some (.int (m:Int))):rV cG g (dB f) oNone env=some (.lst (ds.drop m)):=by
 unfold rV dB;rw[h,z_];show((f env).bind _).bind _=_;rw[hf];show some (D.lst (cutD ds (some (m:Int)) none))=_;rw[zl]
abbrev Rec:=List (Pt×Str)
def Apart(h:List Sh):Prop:=h.Pairwise λs t=>∀p∈s.cs,p∉t.cs
def own(s:Sh)(r:Rec):Rec:=r.filter λx=>decide (x.1∈s.cs)
def dQ(s:Sh)(r:Rec):Bool:=decide (walk [s] [] ((own s r).map Prod.fst)=(own s r).map Prod.snd)
def bI(r:Rec):List Pt:=(r.filter λx=>decide (x.2≠dg)).map Prod.fst
def nY(r:Rec)(s:Sh):Nat:=(s.cs.filter λq=>decide (q∈bI r)).length
def vG(R C:Nat)(q:Sh->Bool)(fl:VW):List (List Sh):=fl.map λl=>(aT R C l).filter q
structure Hid(R C:Nat)(fl:List Nat)(h:List Sh):Prop where
 ap:Apart h
 len:h.length<=3
 sz:∀s∈h,1<=s.n/\s.n<=4
 on:∀s∈h,s∈aT R C s.n
theorem uq(q q':List L2.Key)(x:α):∀(ks:List (List L2.Key))(ds:List α),ds.length=ks.length->q∉ks->aJ (ks++[q]) (ds++[x]) q'=if q'=q then some x else aJ ks ds q'
 | [],[],_,_=>by
  show(if q=q' then some x else aJ [] [] q')=_
  by_cases h:q=q'
  .rw[i_ h,i_ h.symm]
  .rw[j_ h,j_ (SR h)]
 | [],_::_,h,_=>by simp at h
 | _::_,[],h,_=>by simp at h
 | k::ks,d::ds,h,hn=>by
  have ih:=uq q q' x ks ds (by simpa using h) λz=>hn (d_ _ z);show(if k=q' then some d else aJ (ks++[q]) (ds++[x]) q')=if q'=q then some x else(if k=q' then some d else aJ ks ds q');rw[ih]
  by_cases h1:k=q'
  .rw[i_ h1,j_ (λe=>hn (by rw[<- e,<- h1];exact f_)),i_ h1]
  .rw[j_ h1,j_ h1]
theorem o6(q q':List L2.Key)(x:α):∀(ks:List (List L2.Key))(ds:List α),ds.length=ks.length->aJ ks (cg ks ds q x) q'=if q'=q/\q∈ks then some x else aJ ks ds q'
 | [],[],_=>by simp[aJ,cg]
 | [],_::_,h=>by simp at h
 | _::_,[],h=>by simp at h
 | k::ks,d::ds,h=>by
  have ih:=o6 q q' x ks ds (by simpa using h);show(if k=q' then some (if k=q then x else d)else aJ ks (cg ks ds q x) q')=if q'=q/\q∈k::ks then some x else(if k=q' then some d else aJ ks ds q');rw[ih]
  by_cases h1:k=q'
  .subst h1;rw[i_ rfl,i_ rfl]
   by_cases h2:k=q
   .subst h2;rw[i_ rfl,i_ ⟨rfl,f_⟩]
   .rw[j_ h2,j_ λz=>h2 z.1]
  .rw[j_ h1,j_ h1]
   by_cases h2:q'=q
   .subst h2
    by_cases h3:q'∈ks
    .rw[i_ ⟨rfl,h3⟩,i_ ⟨rfl,d_ _ h3⟩]
    .rw[j_ λz=>h3 z.2,j_];rintro⟨_,z⟩;rcases o_.mp z with z | z
     .exact h1 z.symm
     .exact h3 z
   .rw[j_ λz=>h2 z.1,j_ λz=>h2 z.1]
theorem CC(q q':List L2.Key)(x:α)(ks:List (List L2.Key))(ds:List α)(h:ds.length=ks.length):aJ (jS ks q) (m8 ks ds q x) q'=if q'=q then some x else aJ ks ds q':=by
 unfold jS m8
 by_cases hq:q∈ks
 .rw[i_ hq,i_ hq,o6 q q' x ks ds h]
  by_cases e:q'=q
  .rw[i_ ⟨e,hq⟩,i_ e]
  .rw[j_ λz=>e z.1,j_ e]
 .rw[j_ hq,j_ hq,uq q q' x ks ds h hq]
theorem wM(ks:List (List L2.Key))(q q':List L2.Key):q'∈jS ks q↔q'=q\/q'∈ks:=by
 unfold jS
 by_cases h:q∈ks
 .rw[i_ h];exact⟨.inr,λz=>z.elim (λe=>e▸h) id⟩
 .rw[j_ h,O_,k_];exact Or.comm
theorem j7(s:Sh):iK s.d=some s.ks:=rfl
theorem m7{s t:Sh}(h:s.ks=t.ks):s=t:=by
 have h1:¬rX s t:=λb=>by have:=wI b;rw[h]at this;have:=pC b;have e:=CA this;rw[h]at e;simp_all
 have h2:¬rX t s:=λb=>by have:=wI b;rw[<- h]at this;have:=pC b;have e:=CA this;rw[<- h]at e;simp_all
 exact x9 h1 h2
theorem l6(k:α->D)(q:α->List L2.Key)(hk:∀a,iK (k a)=some (q a))(v:List L2.Key->D):∀(as:List α)(m:List (List L2.Key)×Wf),m.2.length=m.1.length->(∀x∈m.1,aJ m.1 m.2 x=some (v x))->∃m',Mi.foldM m (as.map λa=>.tup [k a,v (q a)])=some m'/\m'.2.length=m'.1.length/\(∀x,x∈m'.1↔x∈m.1\/x∈as.map q)/\∀x∈m'.1,aJ m'.1 m'.2 x=some (v x)
 | [],m,h1,h2=>⟨m,rfl,h1,λx=>by simp,h2⟩
 | a::as,m,h1,h2=>by
  obtain⟨m',g1,g2,g3,g4⟩:=l6 k q hk v as (Ah m (q a) (v (q a))) (by show(m8 _ _ _ _).length=(jS _ _).length;exact qN h1 _ _) λx hx=>by
   show aJ (jS _ _) (m8 _ _ _ _) x=_;rw[CC _ _ _ _ _ h1]
   by_cases e:x=q a
   .rw[i_ e,e]
   .rw[j_ e];rcases(wM _ _ _).mp hx with z | z
    .exact absurd z e
    .exact h2 x z
  refine⟨m',?_,g2,λx=>?_,g4⟩
  .show(iK (k a)).bind _=_;rw[hk a];exact g1
  .rw[g3 x,show(Ah m (q a) (v (q a))).1=jS m.1 (q a)from rfl,wM,B_,o_];constructor
   .rintro((h | h) | h)
    .exact .inr (.inl h)
    .exact .inl h
    .exact .inr (.inr h)
   .rintro(h | h | h)
    .exact .inl (.inr h)
    .exact .inl (.inl h)
    .exact .inr h
theorem xp(h1:fi env=some ds)(h2:cf is (bM n caps env)=true)(h3:dN t c k (bM n caps env) ds=some xs)(hl:xs.length<=16000000)(h4:Mi.foldM ([],[]) xs=some m):hZ th fi is t c k n caps env=some (.mp th m.1 m.2):=by
 unfold hZ;rw[h1];show(if cf is (bM n caps env)=true then _ else _)=_;rw[i_ h2,h3];show(if xs.length<=16000000 then _ else _)=_;rw[i_ hl,h4];rfl
theorem CO(h1:f env=some (.mp th ks ds))(h2:g env=some k)(h3:iK k=some q)(h4:aJ ks ds q=some d):ak (getM th) f g env=some d:=by
 rw[br h1 h2];unfold getM;rw[z6];show(iK k).bind _=_;rw[h3];exact h4
theorem xJ(h1:fk env=some k)(h2:fv env=some v)(h3:iK k=some q):gz fk fv env=some [.tup [k,v]]:=by
 unfold gz;rw[h1];show(fv env).bind _=_;rw[h2];show(iK k).bind _=_;rw[h3];rfl
theorem eq_str(a b:Str):dO (.str a) (.str b)=decide (a=b):=by
 rw[show dO (.str a) (.str b)=(a==b) by unfold dO;rfl,SJ];simp
theorem Gc(a:Str):ec (.str a)<=60:=by rw[wt];lia
theorem Cu(h1:f env=some (.str a))(h2:g env=some (.str b)):ak pB f g env=some (.bl (decide (a≠b))):=by
 rw[HH h1 h2 (Hi (Gc a) rfl) (eq_str a b)];simp
theorem uv(s:Sh)(hn:s.n<=1000)(rec:Rec)(hr:rec.length<=1000):m_ship_fits [s.d,.lst (rec.map dh)]=some (.bl (dQ s rec)):=by
 have hl:(own s rec).length<=rec.length:=Sj _ _;have f1:=EK [s] (λt ht=>by rw[k_.mp ht];exact hn) (by simp) (own s rec) (by lia);exact bR ((aK (b0 ((call_v (ay rfl bD)).trans (fU s hn)))).trans (cB ((call_v (ay (AJ (ay rfl bD)) (ay (be (bG rfl) rfl (b8 dh dh (λx=>decide (x.1∈s.cs)) rec λx hx=>⟨[.F (cel x.1),.F (.str x.2),.F (.lst (s.cs.map cel))],rfl,cM (sg rfl rfl),λ_=>rfl⟩) (by rw[c_];show(own s rec).length<=_;lia)) bD))).trans f1)))
theorem zf(rec:Rec)(hr:rec.length<=1000)(s0 s1 s2 s4 s5 s6 s7:Slot):aG (cw aE) [0,1] (rT [0,1]) (fB (ak pB ag (fC (.str "water")))) (ax af) 2 [] [s0,s1,s2,.F (.lst (rec.map dh)),s4,s5,s6,s7]=some (.lst ((bI rec).map cel)):=by
 have e:(bI rec).map cel=(rec.filter λx=>decide (x.2≠dg)).map λx=>cel x.1:=by unfold bI;rw[Q_];rfl
 rw[e];exact be (bG rfl) rfl (b8 dh (λx=>cel x.1) (λx=>decide (x.2≠dg)) rec λx hx=>⟨[.F (cel x.1),.F (.str x.2)],rfl,cM (Cu rfl rfl),λ_=>rfl⟩) (by rw[c_];have:=Sj (λx:Pt×Str=>decide (x.2≠dg)) rec;lia)
theorem EY(rec:Rec)(s:Sh)(hn:s.n<=1000)(s0:Slot):bt bX (aG (cw (λenv=>((ab ag fNil) env).bind m_cells_of)) [0] (aZ 0) (fB (ak (iV false) af ag)) (ax af) 1 [2]) [s0,.F s.d,.F (.lst ((bI rec).map cel))]=some (.int (nY rec s:Nat)):=by
 have hl:nY rec s<=s.cs.length:=Sj _ _;rw[Aw]at hl;have c1:aG (cw (λenv=>((ab ag fNil) env).bind m_cells_of)) [0] (aZ 0) (fB (ak (iV false) af ag)) (ax af) 1 [2] [s0,.F s.d,.F (.lst ((bI rec).map cel))]=some (.lst ((s.cs.filter λq=>decide (q∈bI rec)).map cel)):=be (bG ((call_v (ay rfl bD)).trans (fU s hn))) rfl (b8 cel cel (λq=>decide (q∈bI rec)) s.cs λq hq=>⟨[.F (cel q),.F (.lst ((bI rec).map cel))],rfl,cM (sg rfl rfl),λ_=>rfl⟩) (by rw[c_];show nY rec s<=_;lia);rw[mB c1,c_];rfl
theorem HU(R C:Nat)(hR:R<=4)(hC:C<=5)(fl:VW)(hl:fl.length<=3)(hf:∀n∈fl,1<=n/\n<=4)(rec:Rec)(hr:rec.length<=1000)(s2 s4 s5 s6 s7:Slot):aG (nE ag) [0] (aZ 0) Wl (ax (aG (cw (λenv=>((ab ag (ab af fNil)) env).bind m_ships_of)) [0] (aZ 0) (fB (λenv=>((ab af (ab ag fNil)) env).bind m_ship_fits)) (ax af) 1 [2])) 1 [0,3] [.F (.tup [.int R,.int C]),.F (vn fl),s2,.F (.lst (rec.map dh)),s4,s5,s6,s7]=some (.lst (rF (vG R C (λs=>dQ s rec) fl))):=by
 have e:rF (vG R C (λs=>dQ s rec) fl)=fl.map λl=>D.lst (((aT R C l).filter λs=>dQ s rec).map Sh.d):=by unfold rF vG;rw[Q_];rfl
 rw[e];exact be (oP rfl) rfl (cP (λn:Nat=>D.int n) (λl=>.lst (((aT R C l).filter λs=>dQ s rec).map Sh.d)) fl λl PY=>by
  have hl4:=hf l PY;refine⟨[.F (.int l),.F (.tup [.int R,.int C]),.F (.lst (rec.map dh))],rfl,dP (be (bG ((call_v (ay rfl (ay rfl bD))).trans (v9 R C (by lia) (by lia) l hl4.1 (by lia)))) rfl (b8 Sh.d Sh.d (λs=>dQ s rec) (aT R C l) λs hs=>⟨[.F s.d,.F (.lst (rec.map dh))],rfl,cM ((call_v (ay rfl (ay rfl bD))).trans (uv s (by rw[lQ hs];lia) rec hr)),λ_=>rfl⟩) ?_)⟩;rw[c_];have:=Sj (λs=>dQ s rec) (aT R C l);have:=jx R C hR hC l
  lia) (by rw[c_];lia)
theorem Bo(R C:Nat)(hR:R<=4)(hC:C<=5)(q:Sh->Bool)(fl:VW):∀A∈vG R C q fl,A.length<=40:=λA hA=>by
 obtain⟨l,_,rfl⟩:=E_.mp hA;exact M_ (Sj _ _) (jx R C hR hC l)
def ir(rec:Rec)(k:List L2.Key):D:=match k with
 | [.inl a,.inl b,.inr w,.inl n]=>.int (nY rec ⟨a,b,decide (w=sDn),n.toNat⟩:Nat)
 | _=>.non
theorem lT(rec:Rec)(s:Sh):ir rec s.ks=.int (nY rec s:Nat):=by
 obtain⟨a,b,dn,n⟩:=s;unfold Sh.ks ir Sh.w;cases dn
 .have:decide (uN=sDn)=false:=by decide
  simp[this]
 .simp
theorem vT(R C:Nat)(hR:R<=4)(hC:C<=5)(fl:VW)(hl:fl.length<=3)(hf:∀n∈fl,1<=n/\n<=4)(q:Sh->Bool)(rec:Rec)(s0 s1 s2 s3 s6 s7:Slot):∃ks ds,hZ Th.h (cw bc) [0] (aZ 0) Wl (dH (cw af) [1] (aZ 1) Wl (gz ag (bt bX (aG (cw (λenv=>((ab ag fNil) env).bind m_cells_of)) [0] (aZ 0) (fB (ak (iV false) af ag)) (ax af) 1 [2])))) 2 [4] [s0,s1,s2,s3,.F (.lst ((bI rec).map cel)),.F (.lst (rF (vG R C q fl))),s6,s7]=some (.mp Th.h ks ds)/\∀A∈vG R C q fl,∀s∈A,aJ ks ds s.ks=some (.int (nY rec s:Nat)):=by
 have g1:dN (aZ 0) Wl (dH (cw af) [1] (aZ 1) Wl (gz ag (bt bX (aG (cw (λenv=>((ab ag fNil) env).bind m_cells_of)) [0] (aZ 0) (fB (ak (iV false) af ag)) (ax af) 1 [2])))) [.un,.un,.F (.lst ((bI rec).map cel))] ((vG R C q fl).map λA=>D.lst (A.map Sh.d))=some (((vG R C q fl).flatMap λA=>A).map λs=>D.tup [s.d,ir rec s.ks]):=by
  have key:∀cs:List (List Sh),(∀A∈cs,∀s∈A,s.n<=1000)->dN (aZ 0) Wl (dH (cw af) [1] (aZ 1) Wl (gz ag (bt bX (aG (cw (λenv=>((ab ag fNil) env).bind m_cells_of)) [0] (aZ 0) (fB (ak (iV false) af ag)) (ax af) 1 [2])))) [.un,.un,.F (.lst ((bI rec).map cel))] (cs.map λA=>D.lst (A.map Sh.d))=some ((cs.flatMap λA=>A).map λs=>D.tup [s.d,ir rec s.ks]):=by
   intro cs
   induction cs with
   | nil=>intro _;rfl
   | cons A cs ih=>
    intro hA;have i1:=ih λB hB=>hA B (d_ _ hB);have g2:=cP (t:=aZ 1) (k:=gz ag (bt bX (aG (cw (λenv=>((ab ag fNil) env).bind m_cells_of)) [0] (aZ 0) (fB (ak (iV false) af ag)) (ax af) 1 [2]))) (env:=[.F (.lst (A.map Sh.d)),.un,.F (.lst ((bI rec).map cel))]) Sh.d (λs=>D.tup [s.d,ir rec s.ks]) A λs hs=>⟨[.F (.lst (A.map Sh.d)),.F s.d,.F (.lst ((bI rec).map cel))],rfl,xJ rfl (by rw[lT];exact EY rec s (hA A f_ s hs) _) (j7 s)⟩;have m1:=CJ (fi:=cw af) (is:=[1]) (env:=[.F (.lst (A.map Sh.d)),.un,.F (.lst ((bI rec).map cel))]) (bG rfl) rfl g2;rw[B_,S3,Sg];unfold dN;show(if true=true then dH (cw af) [1] (aZ 1) Wl _ [.F (.lst (A.map Sh.d)),.un,.F (.lst ((bI rec).map cel))]else some []).bind _=_;rw[i_ rfl,m1];show(dN _ _ _ _ _).bind _=_;rw[i1];rfl
  refine key _ λA hA s hs=>?_;obtain⟨l,PY,rfl⟩:=E_.mp hA;have:=lQ (SS.mp hs).1;have:=hf l PY
  lia
 obtain⟨m,f1,f2,f3,f4⟩:=l6 Sh.d Sh.ks j7 (ir rec) ((vG R C q fl).flatMap λA=>A) ([],[]) rfl (λx hx=>by cases hx);refine⟨m.1,m.2,xp (bG rfl) rfl g1 ?_ f1,λA hA s hs=>?_⟩
 .rw[c_];have:=d7 (g:=λA:List Sh=>A) (B:=40) (vG R C q fl) (Bo R C hR hC q fl);have h2:(vG R C q fl).length<=3:=by unfold vG;rw[c_];exact hl
  lia
 .rw[f4 s.ks ((f3 s.ks).mpr (.inr (Uo (TQ.mpr ⟨A,hA,hs⟩)))),lT]
theorem L6(ns:VX):yz (.lst (ns.map .int))=some (.int ns.sum):=by
 show(o8 (ns.map .int)).bind _=_;rw[pF];rfl
theorem O0{R C n:Nat}(hR:R<=4)(hC:C<=5)(hn:1<=n/\n<=4):m_all_fitting [.tup [.int R,.int C],vn [n],.str rY,.lst []]=some (.lst ((aT R C n).map λs=>hidD [s])):=by
 have hsz:∀m∈[n],1<=m/\m<=4:=λm hm=>by rw[k_.mp hm];exact hn
 have hq:∀s:Sh,dQ s []=true:=λs=>by unfold dQ;exact x_ rfl
 have uG:vG R C (λs=>dQ s []) [n]=[aT R C n]:=by
  unfold vG;rw[B_,TV,Uq.mpr λs _=>hq s]
 have am:=tQ rY (.inl rfl) (M:=40) (by decide) 4 (vG R C (λs=>dQ s []) [n]) (by decide) (by rw[uG];simp) (by rw[uG];exact SF rfl) (Bo R C hR hC _ [n]) (by rw[uG];exact SF rfl);rw[uG]at am;rw[show cH rY 4 [aT R C n]=(aT R C n).map λs=>[s]from rfl]at am;obtain⟨ks,ds,k1,k2⟩:=vT R C hR hC [n] (SF rfl) hsz (λs=>dQ s []) [] (.F (.tup [.int R,.int C])) (.F (vn [n])) (.F (.str rY)) (.F (.lst (([]:Rec).map dh))) .un .un;rw[uG]at k2;have k3:∀s∈aT R C n,aJ ks ds s.ks=some (.int (nY [] s:Nat)):=λs hs=>k2 _ f_ s hs;have h0:∀s:Sh,nY [] s=0:=λs=>by
  show(s.cs.filter λq=>decide (q∈bI [])).length=0;rw[T4.mpr λq _=>by rw[show bI []=[]from rfl];simp];rfl
 have hAl:=jx R C hR hC n;refine bR ((aK (b0 (zf [] (by decide) _ _ _ _ _ _ _))).trans ((aK (b0 (HU R C hR hC [n] (SF rfl) hsz [] (by decide) _ _ _ _ _))).trans ((aK (b0 k1)).trans ((aK (b0 ((call_v (ay rfl (ay rfl bD))).trans ?_))).trans (cB (be (bG rfl) rfl (?_:dN _ _ _ _ (((aT R C n).map λs=>[s]).map hidD)=some ((aT R C n).map λs=>hidD [s])) ?_))))))
 .rw[uG];exact am
 .have:=b8 hidD hidD (λ_=>true) ((aT R C n).map λs=>[s]) (t:=aZ 0) (env:=[.un,.F (.mp Th.h ks ds),.F (.lst ((bI []).map cel))]) (c:=fB (ak gv (bt yz (aG (nE af) [0] (aZ 0) Wl (ax (ak (getM Th.h) ag af)) 1 [1])) (bt bX aj))) (k:=ax af) λh hh=>by
   obtain⟨s,hs,rfl⟩:=E_.mp hh;refine⟨[.F (hidD [s]),.F (.mp Th.h ks ds),.F (.lst ((bI []).map cel))],rfl,?_,λ_=>rfl⟩;have c1:aG (nE af) [0] (aZ 0) Wl (ax (ak (getM Th.h) ag af)) 1 [1] [.F (hidD [s]),.F (.mp Th.h ks ds),.F (.lst ((bI []).map cel))]=some (.lst (([s].map λs=>((nY [] s:Nat):Int)).map .int)):=by
    rw[Q_];exact be (oP rfl) rfl (cP Sh.d (λs=>.int (nY [] s:Nat)) [s] λu hu=>⟨[.F u.d,.F (.mp Th.h ks ds)],rfl,dP (CO rfl rfl (j7 u) (k3 u (by rw[k_.mp hu];exact hs)))⟩) (SF rfl)
   have c2:bt yz (aG (nE af) [0] (aZ 0) Wl (ax (ak (getM Th.h) ag af)) 1 [1]) [.F (hidD [s]),.F (.mp Th.h ks ds),.F (.lst ((bI []).map cel))]=some (.int 0):=by
    rw[tE c1,L6,B_,TV,h0 s];rfl
   exact cM ((br c2 (mB rfl)).trans ((Ld _ _).trans rfl))
  rw[Uq.mpr λ_ _=>rfl]at this;exact this.trans (by rw[Q_];rfl)
 .rw[c_];lia
theorem jD(f:α->D)(I:List α->En->Prop):∀(xs pre:List α)(env:En),I pre env->(∀(p:List α)(x:α)(q:List α)(e:En),pre++xs=p++x::q->I p e->∃e1,(t (f x) e).bind body=some (.nx e1)/\I (p++[x]) e1)->∃e2,dA t body (xs.map f) env=some (.nx e2)/\I (pre++xs) e2
 | [],pre,env,h,_=>⟨env,rfl,by rw[G_];exact h⟩
 | x::xs,pre,env,h,hs=>by
  obtain⟨e1,h1,h2⟩:=hs pre x xs env rfl h;obtain⟨e2,h3,h4⟩:=jD f I xs (pre++[x]) e1 h2 λp y q e he hi=>hs p y q e (by rw[<- he];simp) hi;exact⟨e2,by rw[B_,xE h1];exact h3,by rw[show pre++x::xs=pre++[x]++xs by simp];exact h4⟩
def cn(S:List Sh)(u:Sh):Nat:=(S.filter λt=>decide (t.ks=u.ks)).length
theorem rk(S:List Sh)(s u:Sh):cn (S++[s]) u=cn S u+if s.ks=u.ks then 1 else 0:=by
 unfold cn;rw[List.filter_append,h_];congr 1
 by_cases h:s.ks=u.ks
 .rw[i_ h,SM,i_ (by simpa using h)];rfl
 .rw[j_ h,SM,j_ (by simpa using h)];rfl
theorem DJ(h:u∉S):cn S u=0:=by
 unfold cn;rw[List.length_eq_zero_iff,T4];intro t ht e;exact h (m7 (H_ e)▸ht)
theorem ug(q:List L2.Key)(x:D)(k:α->List L2.Key)(f:α->D):∀us:List α,cg (us.map k) (us.map f) q x=us.map λu=>if k u=q then x else f u
 | []=>rfl
 | u::us=>by
  show(if k u=q then x else f u)::cg (us.map k) (us.map f) q x=_;rw[ug q x k f us];rfl
theorem sM:∀{us:List Sh}{s:Sh},s∈us->aJ (us.map Sh.ks) (us.map f) s.ks=some (f s)
 | [],s,h=>by cases h
 | u::us,s,h=>by
  show(if u.ks=s.ks then some (f u)else aJ (us.map Sh.ks) (us.map f) s.ks)=_
  by_cases e:u.ks=s.ks
  .rw[i_ e,m7 e]
  .rw[j_ e];rcases o_.mp h with rfl | h
   .exact absurd rfl e
   .exact sM h
theorem l5{us:List Sh}{s:Sh}:s.ks∈us.map Sh.ks↔s∈us:=⟨λh=>by obtain⟨u,hu,e⟩:=E_.mp h;exact m7 e▸hu,Uo⟩
structure CI(S us:List Sh):Prop where
 nd:us.Nodup
 mem:∀u,u∈us↔u∈S
 len:us.length<=S.length
def cD(S us:List Sh):Wf:=us.map λu=>.int (cn S u:Nat)
open Classical in
theorem Ho(S us:List Sh)(ci:CI S us)(hS:S.length<1000000)(s:Sh)(s0 s2:Slot):∃pO,CI (S++[s]) pO/\b9 [s0,.O (.M Th.h (us.map Sh.ks) (cD S us)),s2,.F s.d]=some (.nx [s0,.O (.M Th.h (pO.map Sh.ks) (cD (S++[s]) pO)),s2,.F s.d]):=by
 have hlen:(us.map Sh.ks).length<16000000:=by rw[c_];have:=ci.len;lia
 have run:∀(j:Int),(aJ (us.map Sh.ks) (cD S us) s.ks).getD (.int 0)=.int j->b9 [s0,.O (.M Th.h (us.map Sh.ks) (cD S us)),s2,.F s.d]=some (.nx [s0,.O (.M Th.h (jS (us.map Sh.ks) s.ks) (m8 (us.map Sh.ks) (cD S us) s.ks (.int (j+1)))),s2,.F s.d]):=λj hj=>by
  have g:w5 Th.h (λenv=>Av env 1) aE Wi [s0,.O (.M Th.h (us.map Sh.ks) (cD S us)),s2,.F s.d]=some (.int j):=by
   show(GF Th.h (.mp Th.h (us.map Sh.ks) (cD S us))).bind _=_;rw[z6];show some ((aJ (us.map Sh.ks) (cD S us) s.ks).getD (.int 0))=_;rw[hj]
  have g2:ak addI (w5 Th.h (λenv=>Av env 1) aE Wi) Wj [s0,.O (.M Th.h (us.map Sh.ks) (cD S us)),s2,.F s.d]=some (.int (j+1)):=(br g rfl).trans (k6 _ _);unfold b9 HQ;rw[g2];show(if Th.h=Th.h/\(us.map Sh.ks).length<16000000 then _ else _)=_;rw[i_ ⟨rfl,hlen⟩];rfl
 by_cases hs:s∈us
 .refine⟨us,⟨ci.nd,λu=>by rw[ci.mem u,O_,k_];exact⟨.inl,λz=>z.elim id λe=>e▸(ci.mem s).mp hs⟩,by rw[h_];have:=ci.len;lia⟩,?_⟩;rw[run (cn S s:Nat) (by unfold cD;rw[sM hs];rfl)];unfold jS m8;rw[i_ (l5.mpr hs),i_ (l5.mpr hs)];congr 6;unfold cD;rw[ug];refine Us λu _=>?_;rw[rk]
  by_cases e:u.ks=s.ks
  .rw[i_ e,i_ e.symm,m7 e];push_cast;rfl
  .rw[j_ e,j_ (SR e)];rfl
 .have hn:s∉S:=λz=>hs ((ci.mem s).mpr z);refine⟨us++[s],⟨UY.mpr ⟨ci.nd,List.pairwise_singleton _ _,λa ha b hb e=>by rw[k_.mp hb]at e;exact hs (e▸ha)⟩,λu=>by rw[O_,O_,ci.mem u],by rw[h_,h_];have:=ci.len;simp only[Si];lia⟩,?_⟩;rw[run 0 (by rw[iz (λz=>hs (l5.mp z))];rfl)];unfold jS m8;rw[j_ (λz=>hs (l5.mp z)),j_ (λz=>hs (l5.mp z)),Sg];congr 6;unfold cD;rw[Sg];congr 1
  .refine Us λu hu=>?_;rw[rk,j_ λe=>hs (by rw[m7 e];exact hu)];rfl
  .rw[List.map_singleton,rk,DJ hn,i_ rfl];rfl
theorem yp(X:List (List Sh))(hX:X.length<=64000)(h3:∀h∈X,h.length<=3):∃us,CI (X.flatMap id) us/\m_ship_counts [.lst (X.map hidD)]=some (.mp Th.h (us.map Sh.ks) (cD (X.flatMap id) us)):=by
 have hfl:∀Y:List (List Sh),(∀h∈Y,h.length<=3)->(Y.flatMap id).length<=3*Y.length:=λY hY=>d7 (g:=id) (B:=3) Y hY;obtain⟨e2,h1,us,s2,s3,rfl,ci⟩:=jD (t:=aZ 2) (body:=gy) hidD (λY e=>∃us s2 s3,e=[.F (.lst (X.map hidD)),.O (.M Th.h (us.map Sh.ks) (cD (Y.flatMap id) us)),s2,s3]/\CI (Y.flatMap id) us) X [] [.F (.lst (X.map hidD)),.O (.M Th.h [] []),.un,.un] ⟨[],.un,.un,rfl,S5,λu=>by simp,by simp⟩ λY h Z e hY az=>by
  obtain⟨us,s2,s3,he,ci⟩:=az;subst he;rw[SV]at hY;have hl:(Y.flatMap id).length+3<1000000:=by
   have l1:=hfl Y λg hg=>h3 g (by rw[hY];simp[hg]);have l2:Y.length<=X.length:=by rw[hY];simp
   lia
  have hh3:h.length<=3:=h3 h (by rw[hY];simp);obtain⟨e3,g1,pO,Oe,rfl,RF⟩:=jD (t:=aZ 3) (body:=b9) Sh.d (λS e=>∃us s3,e=[.F (.lst (X.map hidD)),.O (.M Th.h (us.map Sh.ks) (cD (Y.flatMap id++S) us)),.F (hidD h),s3]/\CI (Y.flatMap id++S) us) h [] [.F (.lst (X.map hidD)),.O (.M Th.h (us.map Sh.ks) (cD (Y.flatMap id) us)),.F (hidD h),s3] ⟨us,s3,by rw[G_],by rw[G_];exact ci⟩ λS s T e hS az=>by
   obtain⟨us,s3,he,ci⟩:=az;subst he;rw[SV]at hS;have:S.length<=h.length:=by rw[hS];simp
   obtain⟨pO,c1,c2⟩:=Ho (Y.flatMap id++S) us ci (by rw[h_];lia) s (.F (.lst (X.map hidD))) (.F (hidD h));refine⟨_,lr (e0:=[.F (.lst (X.map hidD)),.O (.M Th.h (us.map Sh.ks) (cD (Y.flatMap id++S) us)),.F (hidD h),.F s.d]) rfl c2,pO,.F s.d,?_,?_⟩
   .rw[<- Su]
   .rw[<- Su];exact c1
  rw[SV]at g1 RF;have ef:(Y++[h]).flatMap id=Y.flatMap id++h:=by rw[List.flatMap_append];simp
  refine⟨_,lr (e0:=[.F (.lst (X.map hidD)),.O (.M Th.h (us.map Sh.ks) (cD (Y.flatMap id) us)),.F (hidD h),s3]) rfl ((fG (oP rfl)).trans g1),pO,.F (hidD h),Oe,?_,?_⟩
  .rw[ef]
  .rw[ef];exact RF
 rw[SV]at h1 ci;exact⟨us,ci,bR ((aK (e:=[.F (.lst (X.map hidD)),.O (.M Th.h [] []),.un,.un]) rfl).trans ((aK ((fG (bG rfl)).trans h1)).trans rfl))⟩
def F9(ds:Wf):List Pt:=ds.map λd=>match d with | .tup [.int a,.int b]=>(a,b) | _=>(0,0)
def NB:D->Bool
 | .tup [.int _,.int _]=>true
 | _=>false
def bS(ps:List Pt):D:=.lst (ps.map cel)
def Ga:D->List Pt
 | .lst ds=>F9 ds
 | _=>[]
def OZ:D->Bool
 | .lst ds=>ds.all NB
 | _=>false
omit [Th] in
theorem Im:∀{d:D},NB d=true->∃p,d=cel p
 | .tup [.int a,.int b],_=>⟨(a,b),rfl⟩
omit [Th] in
theorem qg:∀{ds:Wf},ds.all NB=true->ds=(F9 ds).map cel
 | [],_=>rfl
 | d::ds,h=>by
  rw[Vv,C_]at h;obtain⟨p,rfl⟩:=Im h.1;show _=cel p::(F9 ds).map cel;rw[<- qg h.2]
omit [Th] in
theorem rH:∀{ds:Wf},ds.all OZ=true->ds=(ds.map Ga).map bS
 | [],_=>rfl
 | d::ds,h=>by
  rw[Vv,C_]at h;rw[B_,B_,<- rH h.2];congr 1;cases d with
  | lst xs=>show D.lst xs=.lst ((F9 xs).map cel);rw[<- qg h.1]
  | _=>cases h.1
def D'(es:Wf):List (List Pt):=es.map λe=>Ga ((m_cells_of [e]).getD .non)
def QR(R C n:Nat):Bool:=match m_net_of [.int R,.int C,.int n],m__law_runs [.int R,.int C,.int n],m_bodies_of [.int R,.int C,.int n]with
 | some (.tup [.lst ds,.lst es]),some (.lst rs),some (.lst bs)=>
  ds.all NB&&(rs.all OZ&&(bs.all OZ&&(decide ((D' es).length=ds.length)&&((D' es).all (λa=>decide (a∈rs.map Ga))&&(decide (D' es).flatten.Nodup&&(decide (F9 ds).Nodup&&((F9 ds).all (λp=>decide (p∈lh R C)) &&
   ((aT R C n).all (λs=>decide (s.cs∈bs.map Ga))&&((bs.map Ga).all (λb=>(aT R C n).any λs=>decide (s.cs=b))&&((rs.isEmpty||!(aT R C n).isEmpty)&&((rs.map Ga).all (λr=>decide (r.length<=4))&&(decide (rs.length<=63)&&decide (bs.length<=63)))))))))))))
 | _,_,_=>false
structure Cl(R C n:Nat)(cE:List Pt)(es:List D)(rs bs:List (List Pt)):Prop where
 nt:m_net_of [.int R,.int C,.int n]=some (.tup [bS cE,.lst es])
 rn:m__law_runs [.int R,.int C,.int n]=some (.lst (rs.map bS))
 bd:m_bodies_of [.int R,.int C,.int n]=some (.lst (bs.map bS))
 fam:∃A:List (List Pt),A.length=cE.length/\(∀a∈A,a∈rs)/\A.flatten.Nodup
 nd:cE.Nodup
 on:∀p∈cE,p∈lh R C
 sb:∀s∈aT R C n,s.cs∈bs
 bx:∀b∈bs,∃s∈aT R C n,s.cs=b
 rx:aT R C n=[]->rs=[]
 r4:∀r∈rs,r.length<=4
 rl:rs.length<=63
 bl:bs.length<=63
theorem IZ:∀R:Fin 4,∀C:Fin 6,∀n:Fin 5,0<R.val->0<C.val->0<n.val->QR R C n=true:=by decide +kernel
theorem closed(R C n:Nat)(hR:0<R/\R<=3)(hC:0<C/\C<=5)(hn:0<n/\n<=4):∃cE es rs bs,Cl R C n cE es rs bs:=by
 have h:=IZ ⟨R,by lia⟩ ⟨C,by lia⟩ ⟨n,by lia⟩ hR.1 hC.1 hn.1;unfold QR at h
 split at h
 .rename_i ds es rs bs e1 e2 e3;simp only[C_,Sk]at h;obtain⟨h1,h2,h3,h4,h5,h6,h7,h8,h9,Nl,Ku,Nm,Nn,Np⟩:=h;refine⟨F9 ds,es,rs.map Ga,bs.map Ga,⟨?_,?_,?_,⟨D' es,?_,λa ha=>H_ (P_.mp h5 a ha),h6⟩,h7,λp hp=>H_ (P_.mp h8 p hp),λs hs=>H_ (P_.mp h9 s hs),λb hb=>?_,λhr=>?_,λr hr=>H_ (P_.mp Nm r hr),by rw[c_];exact Nn,by rw[c_];exact Np⟩⟩
  .rw[e1];unfold bS;rw[<- qg h1]
  .rw[e2,<- rH h2]
  .rw[e3,<- rH h3]
  .rw[h4];unfold F9;rw[c_]
  .obtain⟨s,hs,e⟩:=Te.mp (P_.mp Nl b hb);exact⟨s,hs,H_ e⟩
  .rw[hr]at Ku;exact List.map_eq_nil_iff.mpr (List.isEmpty_iff.mp (by simpa using Ku))
 .cases h
def KN:Wg->Bool
 | some (.bl true)=>true
 | _=>false
omit [Th] in
theorem DZ:∀{d:Wg},KN d=true->d=some (.bl true)
 | some (.bl true),_=>rfl
theorem Lg:∀R:Fin 4,∀C:Fin 6,(lh R C).all (λp=>KN (m_is_cell [.tup [.int (R.val:Nat),.int (C.val:Nat)],cel p]))=true:=by decide +kernel
theorem AO{R C:Nat}(hR:R<=3)(hC:C<=5){p:Pt}(hp:p∈lh R C):m_is_cell [.tup [.int R,.int C],cel p]=some (.bl true):=
 DZ (P_.mp (Lg ⟨R,by lia⟩ ⟨C,by lia⟩) p hp)
def hits(ps b:List Pt):Bool:=b.any λq=>decide (q∈ps)
omit [Th] in
theorem G'(ps:List Pt)(q:Pt):decide (q∈mN ps)=decide (q∈ps):=by rw[decide_eq_decide];exact Ew ps q
omit [Th] in
theorem qB{α:Type}(f:α->Bool)(xs:List α):(xs.map λx=>D.bl (f x))=(xs.map f).map .bl:=by rw[Q_];rfl
theorem BU{R C n:Nat}{cE:List Pt}{es:Wf}{rs bs:List (List Pt)}(c:Cl R C n cE es rs bs)(hR:R<=3)(hC:C<=5)(ps:List Pt)(on:∀p∈ps,p∈lh R C)(nd:ps.Nodup)(hp:ps.length<=60)(Df:∀b∈bs,b.length<=1000) :
  m_is_net [.int R,.int C,.int n,bS ps]=some (.bl (bs.all (hits ps))):=by
 have g1:fB (bt vk (aG (cw aE) [0] (aZ 0) Wl (ax (λenv=>((ab (a7 (ab ag (ab aj fNil))) (ab af fNil)) env).bind m_is_cell)) 1 [0,1])) (cb 5 [.int R,.int C,.int n,bS ps])=some true:=by
  refine cM ((Am (bs:=ps.map λ_=>true) (be (bG rfl) rfl ?_ (by rw[c_,c_];lia))).trans (by rw[List.all_map];exact S0 (λb=>some (D.bl b)) (P_.mpr λ_ _=>rfl)));rw[<- qB];exact cP cel _ ps λp hp=>⟨[.F (cel p),.F (.int R),.F (.int C)],rfl,dP ((call_v rfl).trans (AO hR hC (on p hp)))⟩
 have e1:setF 4 (bt BR aE) (cb 5 [.int R,.int C,.int n,bS ps])=some (.nx [.F (.int R),.F (.int C),.F (.int n),.F (bS ps),.F (.st (mN ps))]):=b0 (IU rfl (um (λ_=>rfl) ps) (by lia));obtain⟨d1,d2⟩:=DG (l:=ps);have g2:fB (ak ltI (bt EA aR) (bt bX aE)) [.F (.int R),.F (.int C),.F (.int n),.F (bS ps),.F (.st (mN ps))]=some false:=by
  refine cM ((br (x:=.int ((mN ps).length:Nat)) rfl (mB rfl)).trans ((AN _ _).trans ?_));rw[c_,R_];have:=d2.mpr nd;lia
 refine bR ((aK ((cm (mZ g1)).trans rfl)).trans ((aK e1).trans ((aK ((cm g2).trans rfl)).trans (cB ?_))));refine(Am (bs:=bs.map (hits ps)) (be (bG ((call_v rfl).trans c.bd)) rfl ?_ (by rw[c_,c_];have:=c.bl;lia))).trans (by rw[List.all_map];rfl);rw[<- qB];refine cP bS _ bs λb hb=>⟨[.F (bS b),.F (.st (mN ps))],rfl,dP ?_⟩;refine(Ml (bs:=b.map λq=>decide (q∈ps)) (be (bG (ds:=b.map cel) rfl) rfl ?_ (by rw[c_,c_];have:=Df b hb;lia))).trans (by rw[List.any_map];rfl);rw[<- qB];refine cP cel _ b λp _=>⟨[.F (cel p),.F (.st (mN ps))],rfl,dP ((br rfl rfl).trans ?_)⟩;show some (D.bl (decide (p∈mN ps)))=some (.bl (decide (p∈ps)));rw[G']
def Ep(sh:List Pt)(c:Pt)(k:List L2.Key):D:=match k with
 | [.inl a,.inl b,.inr w,.inl n]=>.str (gD [⟨a,b,decide (w=sDn),n.toNat⟩] sh c)
 | _=>.non
omit [Th] in
theorem w4(sh:List Pt)(c:Pt)(s:Sh):Ep sh c s.ks=.str (gD [s] sh c):=by
 obtain⟨a,b,dn,n⟩:=s;show D.str (gD [⟨a,b,decide ((if dn=true then sDn else uN)=sDn),(n:Int).toNat⟩] sh c)=_;cases dn
 .rw[j_ (by decide),R_ (by decide)];rfl
 .rw[i_ rfl,x_ rfl];rfl
omit [Th] in
theorem He(s:Sh):Kl s.ks=true:=by
 have h:PyData.strOk s.w=true:=by unfold Sh.w;split<;>decide +kernel
 show(true&&(true&&(PyData.strOk s.w&&(true&&true))))=true;rw[h];rfl
theorem L8{f:Fe}{env:En}{us:List Sh}{ds:Wf}(h:f env=some (.mp Th.h (us.map Sh.ks) ds)):KF Th.h f env=some (us.map Sh.d):=by
 unfold KF;rw[h];show(GF Th.h (.mp Th.h (us.map Sh.ks) ds)).bind _=_;rw[z6];show(if(us.map Sh.ks).all Kl=true then some ((us.map Sh.ks).map O1)else none)=_;rw[i_ (by rw[P_];intro k hk;obtain⟨s,_,rfl⟩:=E_.mp hk;exact He s),Q_]
 rfl
theorem yw(ss:List Sh)(hl:ss.length<=63)(hn:∀s∈ss,s.n<=1000)(sh:List Pt)(c:Pt)(s1 s5 s6 s7:Slot):∃ks ds,hZ Th.h (KF Th.h (λenv=>((ab af fNil) env).bind m_ship_counts)) [0] (aZ 0) Wl (gz af (λenv=>((ab (bV (ab (λenv=>((ab af fNil) env).bind m_cells_of) fNil)) (ab ag (ab aj fNil))) env).bind m_answer_to)) 1 [2,3]
   [.F (.lst (ss.map λs=>hidD [s])),s1,.F (cel c),.F (bS sh),.un,s5,s6,s7]=some (.mp Th.h ks ds)/\∀s∈ss,aJ ks ds s.ks=some (.str (gD [s] sh c)):=by
 obtain⟨us,ci,h1⟩:=yp (ss.map λs=>[s]) (by rw[c_];lia) λh hh=>by obtain⟨s,_,rfl⟩:=E_.mp hh;exact SF rfl
 have hm:∀u,u∈us↔u∈ss:=λu=>by
  rw[ci.mem,TQ];exact⟨λ⟨l,hl,hu⟩=>by obtain⟨a,ha,rfl⟩:=E_.mp hl;rw[k_.mp hu];exact ha,λh=>⟨[u],E_.mpr ⟨u,h,rfl⟩,k_.mpr rfl⟩⟩
 rw[Q_]at h1;have g1:dN (aZ 0) Wl (gz af (λenv=>((ab (bV (ab (λenv=>((ab af fNil) env).bind m_cells_of) fNil)) (ab ag (ab aj fNil))) env).bind m_answer_to)) [.un,.F (cel c),.F (bS sh)] (us.map Sh.d)=some (us.map λs=>D.tup [s.d,Ep sh c s.ks]):=
  cP Sh.d (λs=>D.tup [s.d,Ep sh c s.ks]) us λs hs=>⟨[.F s.d,.F (cel c),.F (bS sh)],rfl,xJ rfl (by
   rw[w4];refine(call_v (ay (d:=.lst ([s].map λs=>.lst (s.cs.map cel))) ?_ rfl)).trans (uw [s] (λt ht=>by rw[k_.mp ht];exact hn s ((hm s).mp hs)) c sh);exact F2 (ay ((call_v rfl).trans (fU s (hn s ((hm s).mp hs)))) bD)) (j7 s)⟩
 obtain⟨m,f1,f2,f3,f4⟩:=l6 Sh.d Sh.ks j7 (Ep sh c) us ([],[]) rfl (λx hx=>by cases hx);refine⟨m.1,m.2,xp (L8 ((call_v rfl).trans h1)) rfl g1 ?_ f1,λs hs=>?_⟩
 .rw[c_];have:=ci.len;have h2:((ss.map λs=>[s]).flatMap id).length<=1*(ss.map λs=>[s]).length:=d7 (g:=id) (B:=1) _ λh hh=>by obtain⟨s,_,rfl⟩:=E_.mp hh;exact SF rfl
  rw[c_]at h2
  lia
 .rw[f4 s.ks ((f3 s.ks).mpr (.inr (Uo ((hm s).mpr hs)))),w4]
abbrev kW:L2.Key:=.inr dg
abbrev kH:L2.Key:=.inr gC
abbrev kS:L2.Key:=.inr gA
abbrev vR:List L2.Key:=[kW,kH,kS]
omit [Th] in
theorem jX{m:List L2.Key×Wf}{q:L2.Key}{d:D}(h:q∉m.1):kO m q d=(m.1++[q],m.2++[d]):=by
 unfold kO;rw[pW h];unfold w6;rw[j_ h]
omit [Th] in
theorem O5:kH∉[kW]:=λh=>absurd (Sum.inr.inj (k_.mp h)) (by decide)
omit [Th] in
theorem Kz:kS∉[kW,kH]:=λh=>by
 rcases o_.mp h with z | z
 .exact absurd (Sum.inr.inj z) (by decide)
 .exact absurd (Sum.inr.inj (k_.mp z)) (by decide)
theorem LY(env:En):jV (nE (fC cu)) [0] (aZ 0) Wl (kj af (bV fNil)) 1 [] env=some (vR,[[],[],[]]):=by
 have f:dW ([],[]) [.tup [.str dg,.lst []],.tup [.str gC,.lst []],.tup [.str gA,.lst []]]=some (vR,[.lst [],.lst [],.lst []]):=by
  show dW (kO ([],[]) kW (.lst [])) _=_;rw[jX (by simp)];show dW (kO ([kW],[.lst []]) kH (.lst [])) _=_;rw[jX O5];show dW (kO ([kW,kH],[.lst [],.lst []]) kS (.lst [])) _=_;rw[jX Kz]
  rfl
 have g:rA (λ_=>0) (nE (fC cu)) [0] (aZ 0) Wl (kj af (bV fNil)) 1 [] env=some (.ix (λ_=>0) vR [.lst [],.lst [],.lst []]):=by
  have h1:nE (fC cu) env=some [.str dg,.str gC,.str gA]:=rfl;have h2:dN (aZ 0) (λx=>some true) (kj af (bV fNil)) (bM 1 [] env) [.str dg,.str gC,.str gA]=some [.tup [.str dg,.lst []],.tup [.str gC,.lst []],.tup [.str gA,.lst []]]:=rfl;unfold rA;rw[h1,z_,i_ (show cf [0] (bM 1 [] env)=true from rfl),h2,z_,i_ (by decide),f];rfl
 unfold jV;rw[g,z_]
 rfl
abbrev eL(d0:D)(a:V8)(c:Pt)(sh:List Pt)(ks:List (List L2.Key))(ds:Wf)(L:V8)(s6 s7:Slot):En:=[.F d0,.A a,.F (cel c),.F (bS sh),.F (.mp Th.h ks ds),.A L,s6,s7]
def cO(sh:List Pt)(c:Pt)(w:Str)(ss:List Sh):Wf:=(ss.filter λs=>decide (gD [s] sh c=w)).map λs=>hidD [s]
omit [Th] in
theorem KZ(s:Sh)(sh:List Pt)(c:Pt):gD [s] sh c=dg\/gD [s] sh c=gC\/gD [s] sh c=gA:=by
 show(if c∈s.cs then(if ∀q∈s.cs,q∈sh then gA else gC)else dg)=dg\/(if c∈s.cs then(if ∀q∈s.cs,q∈sh then gA else gC)else dg)=gC\/(if c∈s.cs then(if ∀q∈s.cs,q∈sh then gA else gC)else dg)=gA
 split
 .split
  .exact .inr (.inr rfl)
  .exact .inr (.inl rfl)
 .exact .inl rfl
omit [Th] in
theorem gq{env:En}{i:Nat}{a:V8}(h:env[i]?=some (.A a)):pV env i a=true:=by
 unfold pV;rw[h];exact x_ rfl
omit [Th] in
theorem gW(sh:List Pt)(c:Pt)(w:Str)(s:Sh)(ss:List Sh):cO sh c w (s::ss)=(if gD [s] sh c=w then [hidD [s]]else [])++cO sh c w ss:=by
 unfold cO;rw[SM]
 by_cases h:gD [s] sh c=w
 .rw[i_ h,i_ (x_ h)];rfl
 .rw[j_ h,j_ (by rw[R_ h];decide)];rfl
theorem Ba(s:Sh)(sh:List Pt)(c:Pt)(ks:List (List L2.Key))(ds:Wf)(hk:aJ ks ds s.ks=some (.str (gD [s] sh c)))(d0:D)(a L:V8)(s7:Slot) :
  setF 7 (aG (nE bH) [0] (aZ 0) (fB (ak pB (ak (getM Th.h) ag af) (fC (.str "water")))) (ax (ak (getM Th.h) ag af)) 1 [4]) (eL d0 a c sh ks ds L (.F (hidD [s])) s7)
   = some (.nx (eL d0 a c sh ks ds L (.F (hidD [s])) (.F (.lst (if gD [s] sh c=dg then []else [.str (gD [s] sh c)]))))):=by
 have gm:ak (getM Th.h) ag af [.F s.d,.F (.mp Th.h ks ds)]=some (.str (gD [s] sh c)):=CO rfl rfl (j7 s) hk;have g:=b8 (t:=aZ 0) (env:=[.un,.F (.mp Th.h ks ds)]) (c:=fB (ak pB (ak (getM Th.h) ag af) (fC (.str "water")))) (k:=ax (ak (getM Th.h) ag af)) Sh.d (λs=>D.str (gD [s] sh c)) (λs=>decide (gD [s] sh c≠dg)) [s] λt ht=>by
  rw[k_.mp ht];exact⟨[.F s.d,.F (.mp Th.h ks ds)],rfl,cM (Cu gm rfl),λ_=>dP gm⟩
 refine b0 ((be (oP rfl) rfl g ?_).trans ?_)
 .rw[c_];exact M_ (Sj _ _) (SF rfl)
 .rw[SM,List.filter_nil]
  by_cases h:gD [s] sh c=dg
  .rw[i_ h,j_ (by rw[R_ (λz=>z h)];decide)];rfl
  .rw[j_ h,i_ (x_ h)];rfl
omit [Th] in
theorem cR{S:Type}{f k:iL S}{env e:En}{g g1:S}(h:f env g=some (.nx e,g1)):fA f k env g=k e g1:=by unfold fA;rw[h];rfl
omit [Th] in
theorem Fv{S:Type}{f k:iL S}{env:En}{g g1:S}{d:D}(h:f env g=some (.rt d,g1)):fA f k env g=some (.rt d,g1):=by unfold fA;rw[h];rfl
omit [Th] in
theorem mU{S:Type}{f:Fs}{env:En}{g:S}{o:Out}(h:f env=some o):rW f env g=some (o,g):=by unfold rW;rw[h];rfl
theorem D6(s:Sh)(sh:List Pt)(c:Pt)(ks:List (List L2.Key))(ds:Wf)(hk:aJ ks ds s.ks=some (.str (gD [s] sh c)))(d0:D)(a L:V8)(s7:Slot)(W H S:Wf)(hl:W.length<1000/\H.length<1000/\S.length<1000) :
  ∃Nq,cU L vR (eL d0 a c sh ks ds L (.F (hidD [s])) s7) [W,H,S]=some (.nx (eL d0 a c sh ks ds L (.F (hidD [s])) Nq),[W++cO sh c dg [s],H++cO sh c gC [s],S++cO sh c gA [s]]):=by
 refine⟨.F (.lst (if gD [s] sh c=dg then []else [.str (gD [s] sh c)])),?_⟩;unfold cU;refine(cR (mU (Ba s sh c ks ds hk d0 a L s7))).trans ?_;have dJ:iteFn (fT sZ) (ak aV sZ Wi) (fC (.str "water")) (eL d0 a c sh ks ds L (.F (hidD [s])) (.F (.lst (if gD [s] sh c=dg then []else [.str (gD [s] sh c)]))))=some (.str (gD [s] sh c)):=by
  by_cases h:gD [s] sh c=dg
  .rw[i_ h,h];rfl
  .rw[j_ h];rfl
 unfold xu;rw[i_ (gq rfl),dJ,z_];show(some (Sum.inr (gD [s] sh c):L2.Key)).bind _=_;rw[z_];show(some (hidD [s])).bind _=_;rw[z_];have n1:¬kW=kH:=λz=>O5 (by rw[z];exact k_.mpr rfl);have n2:¬kW=kS:=λz=>Kz (by rw[<- z];exact f_);have n3:¬kH=kS:=λz=>Kz (by rw[<- z];exact d_ _ f_);have m1:¬dg=gC:=by decide
 have m2:¬dg=gA:=by decide
 have m3:¬gC=gA:=by decide
 rw[gW,gW,gW];have l0:∀w,cO sh c w []=[]:=λ_=>rfl;rw[l0,l0,l0,G_,G_,G_];rcases KZ s sh c with e | e | e
 .rw[e,i_ rfl,j_ m1,j_ m2,G_,G_];have:yM vR kW=some 0:=by unfold yM;rw[i_ rfl]
  rw[this,z_];show(if W.length<16000000 then _ else _)=_;rw[i_ (by lia)];rfl
 .rw[e,j_ (SR m1),j_ (SR m1),i_ rfl,j_ m3,G_,G_];have:yM vR kH=some 1:=by unfold yM yM;rw[j_ n1,i_ rfl];rfl
  rw[this,z_];show(if H.length<16000000 then _ else _)=_;rw[i_ (by lia)];rfl
 .rw[e,j_ (SR m2),j_ (SR m2),j_ (SR m3),i_ rfl,G_,G_];have:yM vR kS=some 2:=by unfold yM yM yM;rw[j_ n2,j_ n3,i_ rfl];rfl
  rw[this,z_];show(if S.length<16000000 then _ else _)=_;rw[i_ (by lia)];rfl
omit [Th] in
theorem rB(sh:List Pt)(c:Pt)(w:Str)(ss:List Sh):(cO sh c w ss).length<=ss.length:=by
 unfold cO;rw[c_];exact Sj _ _
theorem pK(sh:List Pt)(c:Pt)(ks:List (List L2.Key))(ds:Wf)(d0:D)(a L:V8):∀(ss:List Sh)(W H S:Wf)(s6 s7:Slot),(∀s∈ss,aJ ks ds s.ks=some (.str (gD [s] sh c)))->W.length+ss.length<1000->H.length+ss.length<1000->S.length+ss.length<1000->
  ∃uL Nq,mP (aZ 6) (cU L vR) (ss.map λs=>hidD [s]) (eL d0 a c sh ks ds L s6 s7) [W,H,S]=some (.nx (eL d0 a c sh ks ds L uL Nq),[W++cO sh c dg ss,H++cO sh c gC ss,S++cO sh c gA ss])
 | [],W,H,S,s6,s7,_,_,_,_=>⟨s6,s7,by
  show some (Out.nx _,[W,H,S])=some (.nx _,[W++[],H++[],S++[]]);rw[G_,G_,G_]⟩
 | s::ss,W,H,S,s6,s7,hk,h1,h2,h3=>by
  rw[m_]at h1 h2 h3;obtain⟨s7a,e1⟩:=D6 s sh c ks ds (hk s f_) d0 a L s7 W H S ⟨by lia,by lia,by lia⟩;have l1:=rB sh c dg [s];have l2:=rB sh c gC [s];have l3:=rB sh c gA [s];rw[Si]at l1 l2 l3;obtain⟨uL,Nq,e2⟩:=pK sh c ks ds d0 a L ss (W++cO sh c dg [s]) (H++cO sh c gC [s]) (S++cO sh c gA [s]) (.F (hidD [s])) s7a (λt ht=>hk t (d_ _ ht)) (by rw[h_];lia) (by rw[h_];lia) (by rw[h_];lia);refine⟨uL,Nq,?_⟩;have ap:∀w,cO sh c w (s::ss)=cO sh c w [s]++cO sh c w ss:=λw=>by
   rw[gW,gW sh c w s []];show _=(_++[])++_;rw[G_]
  rw[ap,ap,ap,<- Su,<- Su,<- Su,<- e2];rw[B_];show(some (eL d0 a c sh ks ds L (.F (hidD [s])) s7)).bind _=_;rw[z_,e1]
  rfl
def du(sh:List Pt)(c:Pt)(ss:List Sh):D:=.ix Th.h vR [.lst (cO sh c dg ss),.lst (cO sh c gC ss),.lst (cO sh c gA ss)]
theorem ue:∀(ps:List Pt),oe (ps.map cel)=true
 | []=>by unfold oe;rfl
 | p::ps=>by
  rw[B_];unfold oe;rw[ue ps];simp[cel,uZ,oe]
theorem Ee(ss:List Sh)(hl:ss.length<=63)(hn:∀s∈ss,s.n<=1000)(rec:Rec)(hr:rec.length<=60)(c:Pt)(a:V8) :
  eh a [.lst (ss.map λs=>hidD [s])] (rec.map dh) [cel c]=some (du (rec.map Prod.fst++[c]) c ss):=by
 obtain⟨ks,ds,e1,hk⟩:=yw ss hl hn (rec.map Prod.fst++[c]) c (.A a) .un .un .un;have h3:EM 3 (B0 1 a D.lst (ak j8 (λenv=>((ab ag fNil) env).bind m_shot_cells) (bV (ab aj fNil)))) (startB 8 a [.lst (ss.map λs=>hidD [s])] [cel c]) (rec.map dh)
   = some (.nx [.F (.lst (ss.map λs=>hidD [s])),.A a,.F (cel c),.F (bS (rec.map Prod.fst++[c])),.un,.un,.un,.un],rec.map dh):=by
  have g:ak j8 (λenv=>((ab ag fNil) env).bind m_shot_cells) (bV (ab aj fNil)) [.F (.lst (ss.map λs=>hidD [s])),.F (.lst (rec.map dh)),.F (cel c),.un,.un,.un,.un,.un]=some (bS (rec.map Prod.fst++[c])):=by
   refine(vM (xs:=(rec.map Prod.fst).map cel) (ys:=[cel c]) ((call_v rfl).trans (mX rec (by lia))) rfl (by rw[c_,c_];simp;lia)).trans ?_;unfold bS;rw[Sg];rfl
  unfold EM B0;rw[i_ (gq rfl)];show((ak j8 (λenv=>((ab ag fNil) env).bind m_shot_cells) (bV (ab aj fNil)) [.F (.lst (ss.map λs=>hidD [s])),.F (.lst (rec.map dh)),.F (cel c),.un,.un,.un,.un,.un]).bind _).bind _=_;rw[g];show((if oe ((rec.map Prod.fst++[c]).map cel)=true then _ else _):Wg).bind _=_;rw[i_ (ue _)]
  rfl
 have h4:gX [.F (.lst (ss.map λs=>hidD [s])),.A a,.F (cel c),.F (bS (rec.map Prod.fst++[c])),.un,.un,.un,.un]=some (.rt (du (rec.map Prod.fst++[c]) c ss)):=by
  unfold gX;refine(aK (b0 e1)).trans ?_;unfold newX;rw[LY,z_];have ht:(nN λL=>Q3 Th.h vR 5 L (qY (cw af) (aZ 6) (cU L vR) ((([.F (.lst (ss.map λs=>hidD [s])),.A a,.F (cel c),.F (bS (rec.map Prod.fst++[c])),.un,.un,.un,.un]:En).set 4 (.F (.mp Th.h ks ds))).set 5 (.A L)) [[],[],[]]))=some (du (rec.map Prod.fst++[c]) c ss):=by
   refine rC λL=>?_;obtain⟨s6,s7,e2⟩:=pK (rec.map Prod.fst++[c]) c ks ds (.lst (ss.map λs=>hidD [s])) a L ss [] [] [] .un .un hk (by simp;lia) (by simp;lia) (by simp;lia);have e3:qY (cw af) (aZ 6) (cU L vR) ((([.F (.lst (ss.map λs=>hidD [s])),.A a,.F (cel c),.F (bS (rec.map Prod.fst++[c])),.un,.un,.un,.un]:En).set 4 (.F (.mp Th.h ks ds))).set 5 (.A L)) [[],[],[]]=_:=e2;rw[e3];show(if pV _ 5 L=true then _ else _)=_;rw[i_ (gq rfl)];rfl
  exact(S0 (Option.map Out.rt) ht)
 unfold eh FI pq;rw[cR h3,mU h4]
 rfl
def iy(R C n:Nat)(rec:Rec)(Ls:Wf):S2:=([.tup [.int R,.int C],vn [n],.str rY],[rec.map dh,Ls])
theorem AG{R C:Nat}(hR:R<=3)(hC:C<=5)(rec:Rec)(hr:rec.length<=60)(c:Pt)(hc:c∈lh R C)(hn:c∉rec.map Prod.fst):m_refuse_shot [.tup [.int R,.int C],.lst (rec.map dh),cel c]=some .non:=by
 have t1:fB (λenv=>((ab af (ab aj fNil)) env).bind m_is_cell) (cb 3 [.tup [.int R,.int C],.lst (rec.map dh),cel c])=some true:=cM ((call_v rfl).trans (AO hR hC hc));have t2:fB (ak (iV false) aj (λenv=>((ab ag fNil) env).bind m_shot_cells)) (cb 3 [.tup [.int R,.int C],.lst (rec.map dh),cel c])=some false:=by
  refine cM ((sg (p:=c) rfl ((call_v rfl).trans (mX rec (by lia)))).trans ?_);rw[R_ hn]
 unfold m_refuse_shot Mi.runN iR;rw[(aK ((cm (mZ t1)).trans rfl)).trans ((cm t2).trans rfl)]
 rfl
omit [Th] in
theorem sx(xs:Wf)(d:D):aV (.lst (xs++[d])) (.int (-1))=some d:=by
 show L2.atI (xs++[d]) (-1)=some d;unfold L2.atI L2.Kb;rw[h_,Si,j_ (by decide),i_ (by lia)];show(xs++[d])[_]?=some d;rw[show((-1:Int)+((xs.length+1:Nat):Int)).toNat=xs.length by lia,q_ (l_ _),Nat.sub_self]
 rfl
theorem yq{R C n:Nat}(hR:R<=3)(hC:C<=5)(rec:Rec)(hr:rec.length<=60)(c:Pt)(hc:c∈lh R C)(hn:c∉rec.map Prod.fst)(ss:List Sh)(hl:ss.length<=63)(hs:∀s∈ss,s.n<=1000)(Ls:Wf)(x:V8) :
  ee x [cel c] (iy R C n rec (Ls++[.lst (ss.map λs=>hidD [s])]))=some (du (rec.map Prod.fst++[c]) c ss,iy R C n rec (Ls++[.lst (ss.map λs=>hidD [s])])):=by
 have h1:yF 0 x (zz (Cg++B7)) (λenv=>((ab (bt (ny "sheet") af) (ab (bt (ny "shots") af) (ab ag fNil))) env).bind m_refuse_shot) [.A x,.F (cel c)] (iy R C n rec (Ls++[.lst (ss.map λs=>hidD [s])]))=some .non:=by
  unfold yF;rw[i_ (gq rfl)];have g:(λenv=>((ab (bt (ny "sheet") af) (ab (bt (ny "shots") af) (ab ag fNil))) env).bind m_refuse_shot) [.F (zz (Cg++B7) (iy R C n rec (Ls++[.lst (ss.map λs=>hidD [s])]))),.F (cel c)]=some .non:=
   (call_v (ay (d:=.tup [.int R,.int C]) rfl (ay (d:=.lst (rec.map dh)) rfl (ay rfl bD)))).trans (AG hR hC rec hr c hc hn)
  show((λenv=>((ab (bt (ny "sheet") af) (ab (bt (ny "shots") af) (ab ag fNil))) env).bind m_refuse_shot) [.F (zz (Cg++B7) (iy R C n rec (Ls++[.lst (ss.map λs=>hidD [s])]))),.F (cel c)]).bind _=_;rw[g,z_];show(if uZ D.non=true then _ else _)=_;rw[i_ (by unfold uZ;rfl)]
 have h2:FD 0 x 0 (Ay 0 x 1 (bt tS Wj)) (Hn ag) eh [.A x,.F (cel c)] (iy R C n rec (Ls++[.lst (ss.map λs=>hidD [s])]))=some (du (rec.map Prod.fst++[c]) c ss):=by
  unfold FD;rw[i_ (gq rfl)];have o:Ay 0 x 1 (bt tS Wj) [.A x,.F (cel c)] (iy R C n rec (Ls++[.lst (ss.map λs=>hidD [s])]))=some (.lst (ss.map λs=>hidD [s])):=by
   unfold Ay;rw[i_ (gq rfl)];exact sx Ls _
  rw[o,z_];show KP eh [.lst (ss.map λs=>hidD [s])] (rec.map dh) [cel c]=_;exact rC λa=>Ee ss hl hs rec hr c a
 unfold ee nH oO;have e1:E2 (yF 0 x (zz (Cg++B7)) (λenv=>((ab (bt (ny "sheet") af) (ab (bt (ny "shots") af) (ab ag fNil))) env).bind m_refuse_shot)) (startM 2 x [cel c]) (iy R C n rec (Ls++[.lst (ss.map λs=>hidD [s])]))=some (.nx [.A x,.F (cel c)],iy R C n rec (Ls++[.lst (ss.map λs=>hidD [s])])):=by
  unfold E2;rw[show startM 2 x [cel c]=[.A x,.F (cel c)]from rfl,h1];rfl
 rw[cR e1];unfold HR;rw[h2];rfl
theorem Iv{R C n:Nat}(rec:Rec)(hr:rec.length<=60)(c:Pt)(w:Str)(f:D)(Ls:Wf)(hL:Ls.length<=100)(x:V8):mw x [cel c,.str w,f] (iy R C n rec Ls)=some (.non,iy R C n (rec++[(c,w)]) (Ls++[f])):=by
 unfold mw nH Bf;have e1:sT 0 x 0 (Hn (a7 (ab ag (ab aj fNil)))) (startM 4 x [cel c,.str w,f]) (iy R C n rec Ls)=some (.nx [.A x,.F (cel c),.F (.str w),.F f],iy R C n (rec++[(c,w)]) Ls):=by
  unfold sT;rw[i_ (gq rfl)];show(if(rec.map dh).length<16000000 then some (Out.nx [.A x,.F (cel c),.F (.str w),.F f],(([.tup [.int R,.int C],vn [n],.str rY],[rec.map dh++[.tup [cel c,.str w]],Ls]):S2))else none)=_;rw[i_ (by rw[c_];lia)];unfold iy;rw[Sg];rfl
 rw[cR e1];have e2:sT 0 x 1 (Hn aE) [.A x,.F (cel c),.F (.str w),.F f] (iy R C n (rec++[(c,w)]) Ls)=some (.nx [.A x,.F (cel c),.F (.str w),.F f],iy R C n (rec++[(c,w)]) (Ls++[f])):=by
  unfold sT;rw[i_ (gq rfl)];show(if Ls.length<16000000 then some (Out.nx [.A x,.F (cel c),.F (.str w),.F f],(([.tup [.int R,.int C],vn [n],.str rY],[(rec++[(c,w)]).map dh,Ls++[f]]):S2))else none)=_;rw[i_ (by lia)];rfl
 rw[e2];rfl
omit [Th] in
theorem L4(a b c:Int):∃i,i<3/\wO [a,b,c]=i/\∀j,j<3->[a,b,c].getD j 0<=[a,b,c].getD i 0:=by
 have st:∀i,i<3->(∀j,j<3->[a,b,c].getD j 0<=[a,b,c].getD i 0/\(j<i->[a,b,c].getD j 0 < [a,b,c].getD i 0))->∃i,i<3/\wO [a,b,c]=i/\∀j,j<3->[a,b,c].getD j 0<=[a,b,c].getD i 0:=λi hi h=>⟨i,hi,xo hi h,λj hj=>(h j hj).1⟩;have f3:∀{P:Nat->Prop},P 0->P 1->P 2->∀j,j<3->P j:=λ{P} h0 h1 h2 j hj=>match j,hj with
  | 0,_=>h0
  | 1,_=>h1
  | 2,_=>h2
 by_cases h1:b<=a
 .by_cases h2:c<=a
  .exact st 0 (by decide) (f3 ⟨VG _,λz=>by lia⟩ ⟨h1,λz=>by lia⟩ ⟨h2,λz=>by lia⟩)
  .exact st 2 (by decide) (f3 ⟨show a<=c by lia,λ_=>show a<c by lia⟩ ⟨show b<=c by lia,λ_=>show b<c by lia⟩ ⟨VG _,λz=>by lia⟩)
 .by_cases h2:c<=b
  .exact st 1 (by decide) (f3 ⟨show a<=b by lia,λ_=>show a<b by lia⟩ ⟨VG _,λz=>by lia⟩ ⟨h2,λz=>by lia⟩)
  .exact st 2 (by decide) (f3 ⟨show a<=c by lia,λ_=>show a<c by lia⟩ ⟨show b<=c by lia,λ_=>show b<c by lia⟩ ⟨VG _,λz=>by lia⟩)
theorem uc(sh:List Pt)(c:Pt)(ss:List Sh)(w:Str)(JU:w=dg\/w=gC\/w=gA):i6 Th.h (du sh c ss) (.str w)=some (.lst (cO sh c w ss)):=by
 have n1:¬kW=kH:=λz=>O5 (by rw[z];exact k_.mpr rfl);have n2:¬kW=kS:=λz=>Kz (by rw[<- z];exact f_);have n3:¬kH=kS:=λz=>Kz (by rw[<- z];exact d_ _ f_);unfold i6 du;rw[show LN Th.h (.ix Th.h vR [.lst (cO sh c dg ss),.lst (cO sh c gC ss),.lst (cO sh c gA ss)])=some (vR,[.lst (cO sh c dg ss),.lst (cO sh c gC ss),.lst (cO sh c gA ss)])from by unfold LN;exact i_ rfl,z_];show lookI vR [D.lst (cO sh c dg ss),.lst (cO sh c gC ss),.lst (cO sh c gA ss)] (.inr w)=_;rcases JU with e | e | e<;>subst e
 .unfold lookI;rw[i_ rfl]
 .unfold lookI lookI;rw[j_ n1,i_ rfl]
 .unfold lookI lookI lookI;rw[j_ n2,j_ n3,i_ rfl]
def LW(w:Str):Prop:=w=dg\/w=gC\/w=gA
theorem Mm(sh:List Pt)(c:Pt)(ss:List Sh):∃w,LW w/\(∀v,LW v->(cO sh c v ss).length<=(cO sh c w ss).length)/\∀x,y6 (fC cu) [2] (bt bX (ak (i6 Th.h) ag af)) [.A x,.F (cel c),.F (du sh c ss),.un]=some (.str w):=by
 have kf:∀v,LW v->bt bX (ak (i6 Th.h) ag af) [.F (.str v),.F (du sh c ss)]=some (.int ((cO sh c v ss).length:Nat)):=λv hv=>mB ((br rfl rfl).trans (uc sh c ss v hv));have ks:∀x:V8,ic (λd=>bt bX (ak (i6 Th.h) ag af) ((bM 1 [2] [.A x,.F (cel c),.F (du sh c ss),.un]).set 0 (.F d))) [.str dg,.str gC,.str gA]=some [((cO sh c dg ss).length:Int),((cO sh c gC ss).length:Int),((cO sh c gA ss).length:Int)]:=λx=>by
  have k1:=kf dg (.inl rfl);have k2:=kf gC (.inr (.inl rfl));have k3:=kf gA (.inr (.inr rfl));unfold ic;show(bt bX (ak (i6 Th.h) ag af) [.F (.str dg),.F (du sh c ss)]).bind _=_;rw[k1,z_];show(ic _ _).bind _=_;unfold ic;show((bt bX (ak (i6 Th.h) ag af) [.F (.str gC),.F (du sh c ss)]).bind _).bind _=_;rw[k2,z_];show((ic _ _).bind _).bind _=_;unfold ic;show(((bt bX (ak (i6 Th.h) ag af) [.F (.str gA),.F (du sh c ss)]).bind _).bind _).bind _=_;rw[k3,z_]
  rfl
 obtain⟨i,hi,hm,hb⟩:=L4 ((cO sh c dg ss).length:Int) ((cO sh c gC ss).length:Int) ((cO sh c gA ss).length:Int);have h0:=hb 0 (by decide);have h1:=hb 1 (by decide);have h2:=hb 2 (by decide);have fin:∀w,([.str dg,.str gC,.str gA]:Wf)[i]?=some (.str w)->∀x,y6 (fC cu) [2] (bt bX (ak (i6 Th.h) ag af)) [.A x,.F (cel c),.F (du sh c ss),.un]=some (.str w):=λw JU x=>by
  unfold y6;show(ic _ [.str dg,.str gC,.str gA]).bind _=_;rw[ks x,z_,hm];exact JU
 match i,hi,h0,h1,h2,fin with
 | 0,_,h0,h1,h2,fin=>exact⟨dg,.inl rfl,λv hv=>by
   have g1:((cO sh c gC ss).length:Int)<=(cO sh c dg ss).length:=h1;have g2:((cO sh c gA ss).length:Int)<=(cO sh c dg ss).length:=h2;rcases hv with e | e | e<;>subst e<;>lia,fin dg rfl⟩
 | 1,_,h0,h1,h2,fin=>exact⟨gC,.inr (.inl rfl),λv hv=>by
   have g1:((cO sh c dg ss).length:Int)<=(cO sh c gC ss).length:=h0;have g2:((cO sh c gA ss).length:Int)<=(cO sh c gC ss).length:=h2;rcases hv with e | e | e<;>subst e<;>lia,fin gC rfl⟩
 | 2,_,h0,h1,h2,fin=>exact⟨gA,.inr (.inr rfl),λv hv=>by
   have g1:((cO sh c dg ss).length:Int)<=(cO sh c gA ss).length:=h0;have g2:((cO sh c gC ss).length:Int)<=(cO sh c gA ss).length:=h1;rcases hv with e | e | e<;>subst e<;>lia,fin gA rfl⟩
theorem Eh{R C n:Nat}(hR:R<=3)(hC:C<=5)(rec:Rec)(hr:rec.length<=50)(c:Pt)(hc:c∈lh R C)(hn:c∉rec.map Prod.fst)(ss:List Sh)(hl:ss.length<=63)(hs:∀s∈ss,s.n<=1000)(Ls:Wf)(hL:Ls.length<=50) :
  ∃w,LW w/\(∀v,LW v->(cO (rec.map Prod.fst++[c]) c v ss).length<=(cO (rec.map Prod.fst++[c]) c w ss).length)/\∀x,ju x [cel c] (iy R C n rec (Ls++[.lst (ss.map λs=>hidD [s])]))=some (.str w,iy R C n (rec++[(c,w)]) ((Ls++[.lst (ss.map λs=>hidD [s])])++[.lst (cO (rec.map Prod.fst++[c]) c w ss)])):=by
 obtain⟨w,h3,hb,hmx⟩:=Mm (rec.map Prod.fst++[c]) c ss;refine⟨w,h3,hb,λx=>?_⟩;have mv:y6 (fC cu) [2] (bt bX (ak (i6 Th.h) ag af)) [.A x,.F (cel c),.F (du (rec.map Prod.fst++[c]) c ss),.un]=some (.str w):=hmx x;unfold ju nH xc;have e1:vL 2 (iY 0 x (ab ag fNil) ee) (startM 4 x [cel c]) (iy R C n rec (Ls++[.lst (ss.map λs=>hidD [s])]))=some (.nx [.A x,.F (cel c),.F (du (rec.map Prod.fst++[c]) c ss),.un],iy R C n rec (Ls++[.lst (ss.map λs=>hidD [s])])):=by
  unfold vL iY;rw[i_ (gq rfl)];show(ee x [cel c] (iy R C n rec (Ls++[.lst (ss.map λs=>hidD [s])]))).bind _=_;rw[yq hR hC rec (by lia) c hc hn ss hl hs Ls x];rfl
 rw[cR e1,cR (mU (b0 mv))];have e3:Fp (iY 0 x (ab ag (ab aE (ab (ak (i6 Th.h) aj aE) fNil))) mw) [.A x,.F (cel c),.F (du (rec.map Prod.fst++[c]) c ss),.F (.str w)] (iy R C n rec (Ls++[.lst (ss.map λs=>hidD [s])]))=some (.nx [.A x,.F (cel c),.F (du (rec.map Prod.fst++[c]) c ss),.F (.str w)],iy R C n (rec++[(c,w)]) ((Ls++[.lst (ss.map λs=>hidD [s])])++[.lst (cO (rec.map Prod.fst++[c]) c w ss)])):=by
  unfold Fp iY;rw[i_ (gq rfl),ay (d:=cel c) rfl (ay (d:=.str w) rfl (ay ((br rfl rfl).trans (uc (rec.map Prod.fst++[c]) c ss w h3)) bD)),z_,Iv rec (by lia) c w _ _ (by rw[h_];simp;lia) x];rfl
 refine(S0 (λz=>Option.bind z _) (cR e3)).trans ?_
 rfl
abbrev hid1(s:Sh):D:=hidD [s]
theorem Jj{R C n:Nat}(hR:R<=3)(hC:C<=5)(hn:1<=n/\n<=4)(h0:aT R C n≠[]):m_some_fitting [.tup [.int R,.int C],vn [n],.str rY,.lst []]=some (.lst ((aT R C n).map hid1)):=by
 have f:=O0 (R:=R) (C:=C) (n:=n) (by lia) hC hn;have t1:fT aR [.F (.tup [.int R,.int C]),.F (vn [n]),.F (.str rY),.F (.lst []),.F (.lst ((aT R C n).map hid1))]=some true:=by
  show some (!((aT R C n).map hid1).isEmpty)=some true;cases h:aT R C n with
  | nil=>exact absurd h h0
  | cons a b=>rfl
 exact bR ((aK (b0 ((call_v rfl).trans f))).trans ((aK ((cm (mZ t1)).trans rfl)).trans (cB rfl)))
omit [Th] in
theorem BL{i:Nat}{x:V8}{fe:Fe}{fr:En->S2->Option S2}{env:En}{g:S2}{d:D}(h:pV env i x=true)(e:fe env=some d):Ke i x fe fr env g=fr env (g.1++[d],g.2):=by
 unfold Ke;rw[i_ h,e];rfl
omit [Th] in
theorem GM{i:Nat}{x:V8}{fe:Fe}{fr:En->S2->Option S2}{env:En}{g:S2}{ds:Wf}(h:pV env i x=true)(e:fe env=some (.lst ds)):Lo i x fe fr env g=fr env (g.1,g.2++[ds]):=by
 unfold Lo;rw[i_ h,e];rfl
theorem Ig{R C n:Nat}(hR:R<=3)(hC:C<=5)(hn:1<=n/\n<=4)(h0:aT R C n≠[]):m_init [.tup [.int R,.int C],vn [n],.str rY]=some (iy R C n [] [.lst ((aT R C n).map hid1)]):=by
 unfold m_init Fd;refine rC λx=>?_;have e:bV (ab (λenv=>((ab ag (ab aj (ab aE (ab (bV fNil) fNil)))) env).bind m_some_fitting) fNil) [.A x,.F (.tup [.int R,.int C]),.F (vn [n]),.F (.str rY)]=some (.lst [.lst ((aT R C n).map hid1)]):=F2 (ay ((call_v rfl).trans (Jj hR hC hn h0)) bD);have a0:pV [.A x,.F (.tup [.int R,.int C]),.F (vn [n]),.F (.str rY)] 0 x=true:=gq rfl;unfold Cq;rw[show startM 4 x [.tup [.int R,.int C],vn [n],.str rY]=[.A x,.F (.tup [.int R,.int C]),.F (vn [n]),.F (.str rY)]from rfl];rw[BL a0 (d:=.tup [.int R,.int C]) rfl,BL a0 (d:=vn [n]) rfl,BL a0 (d:=.str rY) rfl,GM a0 (ds:=[]) rfl,GM a0 e]
 rfl
omit [Th] in
theorem oJ(pre:List Pt)(c:Pt)(b:List Pt):hits (pre++[c]) b=(hits pre b||decide (c∈b)):=by
 unfold hits;rw[SJ,Ux,Te,Te,Sk];refine⟨λ⟨q,hq,h⟩=>?_,λh=>?_⟩
 .rcases O_.mp (H_ h)with z | z
  .exact .inl ⟨q,hq,x_ z⟩
  .rw[k_.mp z]at hq;exact .inr hq
 .rcases h with ⟨q,hq,h⟩ | h
  .exact⟨q,hq,x_ (Ud _ (H_ h))⟩
  .exact⟨c,h,x_ (y_ _ (k_.mpr rfl))⟩
def oj(R C n:Nat)(pre:List Pt):List Sh:=(aT R C n).filter λs=>!hits pre s.cs
omit [Th] in
theorem BH(s:Sh)(sh:List Pt)(c:Pt):gD [s] sh c=dg↔c∉s.cs:=by
 show(if c∈s.cs then(if ∀q∈s.cs,q∈sh then gA else gC)else dg)=dg↔_
 by_cases h:c∈s.cs
 .rw[i_ h];refine⟨λe=>?_,λz=>absurd h z⟩;exfalso
  revert e
  split<;>decide
 .rw[j_ h];exact⟨λ_=>h,λ_=>rfl⟩
omit [Th] in
theorem D4(R C n:Nat)(pre sh:List Pt)(c:Pt):cO sh c dg (oj R C n pre)=(oj R C n (pre++[c])).map hid1:=by
 unfold cO oj;rw[List.filter_filter];congr 1;refine List.filter_congr λs _=>?_;rw[oJ,SJ];simp only[C_,Bool.not_eq_true',Bool.or_eq_false_iff,Sk,decide_eq_false_iff_not,BH];exact And.comm
abbrev eQ(R C n:Nat)(cells:List Pt)(x:V8)(s4 s5 s6:Slot):En:=[.F (.tup [.int R,.int C]),.F (.int n),.F (bS cells),.A x,s4,s5,s6]
def lu(pre:List Pt):Rec:=pre.map λp=>(p,dg)
omit [Th] in
theorem sU(pre:List Pt):(lu pre).map Prod.fst=pre:=by
 unfold lu;rw[Q_];exact(Us (g:=id) λp _=>rfl).trans (List.map_id pre)
theorem Js{f:Fe}{env:En}{ds:Wf}(h:f env=some (.lst ds)):bt iX f env=some (.lst ds):=by rw[tE h];rfl
theorem GN{R C n:Nat}{cE:List Pt}{es:Wf}{rs bs:List (List Pt)}(cl:Cl R C n cE es rs bs)(hR:R<=3)(hC:C<=5)(Df:∀b∈bs,b.length<=1000)(cells:List Pt)(on:∀p∈cells,p∈lh R C)(nd:cells.Nodup)(hl:cells.length<=60)(m:Nat)(x:V8)(s4 s5 s6:Slot){f:Fe}(hf:f (eQ R C n cells x s4 s5 s6)=some (.int (m:Int))) :
  (λenv=>((ab (ak aV af Wi) (ab (ak aV af Wj) (ab ag (ab (bt iX (rV cG aj oNone (dB f))) fNil)))) env).bind m_is_net) (eQ R C n cells x s4 s5 s6)=some (.bl (bs.all (hits (cells.take m)))):=by
 refine(call_v (ay (d:=.int R) rfl (ay (d:=.int C) rfl (ay (d:=.int n) rfl (ay (d:=bS (cells.take m)) ?_ bD))))).trans (BU cl hR hC (cells.take m) (λp hp=>on p (List.mem_of_mem_take hp)) (nd.sublist (List.take_sublist _ _)) (by rw[Uk];lia) Df);refine(Js (Gm (ds:=cells.map cel) rfl hf)).trans ?_;unfold bS;rw[UV]
theorem L7{f g:Fe}{env:En}{a b:Str}(h1:f env=some (.str a))(h2:g env=some (.str b)):ak gv f g env=some (.bl (decide (a=b))):=by
 rw[Jc h1 h2 (Hi (Gc a) rfl) (eq_str a b)]
theorem IV{R C n:Nat}{cE:List Pt}{es:Wf}{rs bs:List (List Pt)}(cl:Cl R C n cE es rs bs)(hR:R<=3)(hC:C<=5)(hn:n<=4)(Df:∀b∈bs,b.length<=1000)(hA:(aT R C n).length<=63)(cells pre rest:List Pt)(c:Pt)(hc:cells=pre++c::rest)(on:∀p∈cells,p∈lh R C)(nd:cells.Nodup)(hl:cells.length<=40)(Ls:Wf)(hL:Ls.length<=pre.length)(s5 s6:Slot) :
  (∀x,∃g,c6 x (eQ R C n cells x (.F (.int (pre.length:Nat))) s5 s6) (iy R C n (lu pre) (Ls++[.lst ((oj R C n pre).map hid1)]))=some (.rt (.bl true),g))\/
  (∃G0 uL,∀x,c6 x (eQ R C n cells x (.F (.int (pre.length:Nat))) s5 s6) (iy R C n (lu pre) (Ls++[.lst ((oj R C n pre).map hid1)]))=some (.nx (eQ R C n cells x (.F (.int (pre.length:Nat))) G0 uL),iy R C n (lu (pre++[c])) ((Ls++[.lst ((oj R C n pre).map hid1)])++[.lst ((oj R C n (pre++[c])).map hid1)]))):=by
 have hlen:cells.length=pre.length+(rest.length+1):=by rw[hc,h_,m_]
 have hcm:c∈cells:=by rw[hc];exact y_ _ f_
 have hcn:c∉pre:=λz=>by
  rw[hc]at nd;exact(S1.mp nd).2.2 c z c f_ rfl
 have ht0:cells.take pre.length=pre:=by rw[hc,List.take_left'];rfl
 have ht1:cells.take (pre.length+1)=pre++[c]:=by
  rw[hc,List.take_append,Tc (by lia),show pre.length+1-pre.length=1 by lia];rfl
 obtain⟨w,h3,hb,sv⟩:=Eh (n:=n) hR hC (lu pre) (by unfold lu;rw[c_];lia) c (on c hcm) (by rw[sU];exact hcn) (oj R C n pre) (M_ (Sj _ _) hA) (λs hs=>by have:=lQ (SS.mp hs).1;lia) Ls (by lia);rw[sU]at hb sv;have e1:∀x,vL 5 (iY 3 x (ab (ak aV aj aR) fNil) ju) (eQ R C n cells x (.F (.int (pre.length:Nat))) s5 s6) (iy R C n (lu pre) (Ls++[.lst ((oj R C n pre).map hid1)]))=some (.nx (eQ R C n cells x (.F (.int (pre.length:Nat))) (.F (.str w)) s6),iy R C n (lu pre++[(c,w)]) ((Ls++[.lst ((oj R C n pre).map hid1)])++[.lst (cO (pre++[c]) c w (oj R C n pre))])):=λx=>by
  unfold vL iY;rw[i_ (gq rfl),ay (d:=cel c) (BN (ds:=cells.map cel) rfl rfl (wQ (by rw[u_,hc,q_ (l_ _),Nat.sub_self];rfl))) bD,z_];rw[sv x];rfl
 have n1:=λx=>GN cl hR hC Df cells on nd (by lia) (pre.length+1) x (.F (.int (pre.length:Nat))) (.F (.str w)) s6 (f:=ak addI aR Wj) rfl;have n0:=λx uL=>GN cl hR hC Df cells on nd (by lia) pre.length x (.F (.int (pre.length:Nat))) (.F (.str w)) uL (f:=λenv=>gF env 4) rfl;rw[ht1]at n1;rw[ht0]at n0;have t3:∀x,(i9 (fB bH) (i9 (fB (ak gv bc (fC (.str "water")))) (je (fB (λenv=>((ab (ak aV af Wi) (ab (ak aV af Wj) (ab ag (ab (bt iX (rV cG aj oNone (dB aR))) fNil)))) env).bind m_is_net))))) (eQ R C n cells x (.F (.int (pre.length:Nat))) (.F (.str w)) (.F (.bl (bs.all (hits (pre++[c]))))))=some false:=λx=>by
  have q1:fB bH (eQ R C n cells x (.F (.int (pre.length:Nat))) (.F (.str w)) (.F (.bl (bs.all (hits (pre++[c]))))))=some (bs.all (hits (pre++[c]))):=cM rfl;cases hN:bs.all (hits (pre++[c]))with
  | false=>rw[hN]at q1;unfold i9;rw[q1];rfl
  | true=>
   rw[hN]at q1;unfold i9;rw[q1,z_,i_ rfl];have q2:fB (ak gv bc (fC (.str "water"))) (eQ R C n cells x (.F (.int (pre.length:Nat))) (.F (.str w)) (.F (.bl true)))=some (decide (w=dg)):=cM (L7 rfl rfl);rw[q2,z_]
   by_cases nG:w=dg
   .rw[i_ (x_ nG)];have q3:fB (λenv=>((ab (ak aV af Wi) (ab (ak aV af Wj) (ab ag (ab (bt iX (rV cG aj oNone (dB aR))) fNil)))) env).bind m_is_net) (eQ R C n cells x (.F (.int (pre.length:Nat))) (.F (.str w)) (.F (.bl true)))=some (bs.all (hits pre)):=cM (n0 x (.F (.bl true)));have hk:bs.all (hits pre)=true:=by
     cases hk:bs.all (hits pre)with
     | true=>rfl
     | false=>
      exfalso;obtain⟨b,hbm,hbh⟩:=List.all_eq_false.mp hk;obtain⟨s,hs,rfl⟩:=cl.bx b hbm;have hsu:s∈oj R C n pre:=SS.mpr ⟨hs,by rw[Bool.not_eq_true'];exact Vq.mpr hbh⟩;have iM:∀t∈oj R C n pre,c∈t.cs:=λt ht=>by
       obtain⟨t1,t2⟩:=SS.mp ht;have:=P_.mp hN t.cs (cl.sb t t1);rw[oJ,Ux]at this;rcases this with z | z
       .rw[z]at t2;cases t2
       .exact H_ z
      have l0:(cO (pre++[c]) c w (oj R C n pre)).length=0:=by
       rw[nG];unfold cO;rw[T4.mpr λt ht=>by
        rw[Sk,BH];exact λz=>z (iM t ht)]
       rfl
      have l1:0<(cO (pre++[c]) c (gD [s] (pre++[c]) c) (oj R C n pre)).length:=by
       unfold cO;rw[c_];exact List.length_pos_of_mem (SS.mpr ⟨hsu,x_ rfl⟩)
      have:=hb (gD [s] (pre++[c]) c) (KZ s (pre++[c]) c)
      lia
    rw[hk]at q3;exact mZ q3
   .rw[j_ (by rw[R_ nG];decide)]
 have e2:∀x (g:S2),fA (rW (setF 6 (λenv=>((ab (ak aV af Wi) (ab (ak aV af Wj) (ab ag (ab (bt iX (rV cG aj oNone (dB (ak addI aR Wj)))) fNil)))) env).bind m_is_net))) (fA (rW (iC (i9 (fB bH) (i9 (fB (ak gv bc (fC (.str "water")))) (je (fB (λenv=>((ab (ak aV af Wi) (ab (ak aV af Wj) (ab ag (ab (bt iX (rV cG aj oNone (dB aR))) fNil)))) env).bind m_is_net))))) (bj (fC (.bl false))) nxF)) (rW (iC (fB (ak pB bc (fC (.str "water")))) (bj (fC (.bl true))) nxF))) (eQ R C n cells x (.F (.int (pre.length:Nat))) (.F (.str w)) s6) g
   = if w=dg then some (.nx (eQ R C n cells x (.F (.int (pre.length:Nat))) (.F (.str w)) (.F (.bl (bs.all (hits (pre++[c])))))),g)else some (.rt (.bl true),g):=λx g=>by
  rw[cR (mU (b0 (n1 x)))];refine(cR (mU ((cm (t3 x)).trans rfl))).trans ?_;have q4:fB (ak pB bc (fC (.str "water"))) (eQ R C n cells x (.F (.int (pre.length:Nat))) (.F (.str w)) (.F (.bl (bs.all (hits (pre++[c]))))))=some (decide (w≠dg)):=cM (Cu rfl rfl)
  by_cases nG:w=dg
  .rw[i_ nG];rw[R_ (λz=>z nG)]at q4;exact mU ((cm q4).trans rfl)
  .rw[j_ nG];rw[x_ nG]at q4;exact mU ((hV q4).trans rfl)
 by_cases nG:w=dg
 .right;refine⟨.F (.str w),.F (.bl (bs.all (hits (pre++[c])))),λx=>?_⟩;unfold c6;rw[cR (e1 x),e2,i_ nG,nG,D4];unfold lu;rw[Sg];rfl
 .left;refine λx=>⟨iy R C n (lu pre++[(c,w)]) ((Ls++[.lst ((oj R C n pre).map hid1)])++[.lst (cO (pre++[c]) c w (oj R C n pre))]),?_⟩;unfold c6;rw[cR (e1 x),e2,j_ nG]
theorem mL{R C n:Nat}{cE:List Pt}{es:Wf}{rs bs:List (List Pt)}(cl:Cl R C n cE es rs bs)(hR:R<=3)(hC:C<=5)(hn:n<=4)(Df:∀b∈bs,b.length<=1000)(hA:(aT R C n).length<=63)(cells:List Pt)(on:∀p∈cells,p∈lh R C)(nd:cells.Nodup)(hl:cells.length<=40)(x:V8) :
  ∀(rest pre:List Pt)(Ls:Wf)(s4 s5 s6:Slot),cells=pre++rest->Ls.length<=pre.length->
   ∃o g,mP (aZ 4) (c6 x) ((List.range' pre.length rest.length).map λ(i:Nat)=>D.int i) (eQ R C n cells x s4 s5 s6) (iy R C n (lu pre) (Ls++[.lst ((oj R C n pre).map hid1)]))=some (o,g)/\(o=.rt (.bl true)\/∃e,o=.nx e)
 | [],pre,Ls,s4,s5,s6,_,_=>⟨_,_,rfl,.inr ⟨_,rfl⟩⟩
 | c::rest,pre,Ls,s4,s5,s6,hc,hL=>by
  rw[m_,List.range'_succ,B_];rcases IV cl hR hC hn Df hA cells pre rest c hc on nd hl Ls hL s5 s6 with h | ⟨G0,uL,h⟩
  .obtain⟨g,e⟩:=h x;refine⟨.rt (.bl true),g,?_,.inl rfl⟩;show(c6 x (eQ R C n cells x (.F (.int (pre.length:Nat))) s5 s6) _).bind _=_;rw[e];rfl
  .obtain⟨o,g,e2,ho⟩:=mL cl hR hC hn Df hA cells on nd hl x rest (pre++[c]) (Ls++[.lst ((oj R C n pre).map hid1)]) (.F (.int (pre.length:Nat))) G0 uL (by rw[hc,Su];rfl) (by rw[h_,h_];simp;lia);refine⟨o,g,?_,ho⟩;rw[h_,Si]at e2;show(c6 x (eQ R C n cells x (.F (.int (pre.length:Nat))) s5 s6) _).bind _=_;rw[h x];exact e2
theorem wX{R C n:Nat}{cE:List Pt}{es:Wf}{rs bs:List (List Pt)}(cl:Cl R C n cE es rs bs)(hR:R<=3)(hC:C<=5)(hn:1<=n/\n<=4)(hA:(aT R C n).length<=63)(h0:aT R C n≠[])(cells:List Pt)(on:∀p∈cells,p∈lh R C)(nd:cells.Nodup)(hl:cells.length<=40) :
  m__law_water_right [.tup [.int R,.int C],.int n,bS cells]=some (.bl true):=by
 have Df:∀b∈bs,b.length<=1000:=λb hb=>by
  obtain⟨s,hs,rfl⟩:=cl.bx b hb;rw[Aw,lQ hs];lia
 have u0:oj R C n []=aT R C n:=by
  unfold oj;exact Uq.mpr λs _=>by
   have:hits [] s.cs=false:=by
    unfold hits;rw[Vn];intro q _ z;cases(H_ z)
   rw[this];rfl
 refine bR ?_;unfold eG Jf;show((ab af (ab (a7 (ab ag fNil)) (ab (fC (.str "free")) fNil))) [.F (.tup [.int R,.int C]),.F (.int n),.F (bS cells),.un,.un,.un,.un]).bind _=_;rw[ay (d:=.tup [.int R,.int C]) rfl (ay (d:=vn [n]) rfl (ay (d:=.str rY) rfl bD)),z_,Ig hR hC hn h0,z_];have tp:(nN λx=>Ou ((λx=>fA (qY (cY (bt bX aj)) (aZ 4) (c6 x)) (rW (bj (fC (.bl true))))) x (([.F (.tup [.int R,.int C]),.F (.int n),.F (bS cells),.un,.un,.un,.un]:En).set 3 (.A x)) (iy R C n [] [.lst ((aT R C n).map hid1)])))=some (.bl true):=by
  refine rC λx=>?_;obtain⟨o,g,e,ho⟩:=mL cl hR hC hn.2 Df hA cells on nd hl x cells [] [] .un .un .un rfl (l_ _);rw[u0]at e;have f:qY (cY (bt bX aj)) (aZ 4) (c6 x) (eQ R C n cells x .un .un .un) (iy R C n [] [.lst ((aT R C n).map hid1)])=some (o,g):=by
   unfold qY;rw[ia (n:=cells.length) ((mB (ds:=cells.map cel) rfl).trans (by rw[c_])) (by lia),z_,zY,List.range_eq_range'];exact e
  show Ou (fA (qY (cY (bt bX aj)) (aZ 4) (c6 x)) (rW (bj (fC (.bl true)))) (eQ R C n cells x .un .un .un) (iy R C n [] [.lst ((aT R C n).map hid1)]))=_;rcases ho with rfl | ⟨en,rfl⟩
  .rw[Fv f];rfl
  .rw[cR f];rfl
 exact S0 (Option.map Out.rt) tp
def bK(ps:List Pt):D:=.tup (ps.map cel)
theorem Em(ev r:List Pt)(hr:∀p∈r,p∈ev)(hl:ev.length<=60)(s1 s2 s3 s4 s6:Slot):∃b:Nat,iteFn (fB (ak pB bc (a7 fNil))) (ak addI (ak DF af (ak aV bc (bt tS Wj))) Wj) Wi [.F (bS ev),s1,s2,s3,s4,.F (bK r),s6]=some (.int (b:Int)):=by
 have e0:∀xs:Wf,dO (.tup xs) (.tup [])=xs.isEmpty:=λxs=>by cases xs<;>(rw[dO];unfold i8;rfl)
 have t:fB (ak pB bc (a7 fNil)) [.F (bS ev),s1,s2,s3,s4,.F (bK r),s6]=some (!r.isEmpty):=by
  refine cM ((HH (d:=bK r) (e:=.tup []) rfl rfl (HD (by unfold ec lj;lia) (by unfold bK pl;rw[f'];rfl)) (e0 _)).trans ?_);rw[US]
 rcases List.eq_nil_or_concat r with rfl | ⟨r',q,rfl⟩
 .exact⟨0,A3 t (λz=>by cases z) λ_=>rfl⟩
 .rw[List.concat_eq_append]at hr t ⊢;refine⟨(ev.map cel).findIdx (λe=>dO e (cel q))+1,A3 t (λ_=>?_) λz=>by simp at z⟩;have hq:q∈ev:=hr q (y_ _ (k_.mpr rfl));have l1:ak aV bc (bt tS Wj) [.F (bS ev),s1,s2,s3,s4,.F (bK (r'++[q])),s6]=some (cel q):=by
   have:=sx (r'.map cel) (cel q);show L2.atI ((r'++[q]).map cel) (-1)=some (cel q);rw[Sg];exact this
  have l2:ak DF af (ak aV bc (bt tS Wj)) [.F (bS ev),s1,s2,s3,s4,.F (bK (r'++[q])),s6]=some (.int (((ev.map cel).findIdx λe=>dO e (cel q):Nat):Int)):=by
   rw[br (x:=bS ev) rfl l1];show(if ec (cel q)<=60/\(pl (cel q)&&gK (ev.map cel))=true/\inD (cel q) (ev.map cel)=true then _ else _)=_;rw[i_ ⟨lE q,by rw[mR,f'];rfl,by rw[kl];exact x_ hq⟩]
  exact(br l2 rfl).trans ((k6 _ _).trans rfl)
theorem Ed(ev r:List Pt)(hr:∀p∈r,p∈ev)(hl:ev.length<=60)(RE:r.length<=60)(L:List (List Pt))(hL:L.length<=1000000)(s1 s2 s3 s6:Slot):∃(uL:Slot)(b:Nat),eZ [.F (bS ev),s1,s2,s3,.O (.L (L.map bK)),.F (bK r),s6]=some (.nx [.F (bS ev),s1,s2,s3,.O (.L ((L++(ev.drop b).map λc=>r++[c]).map bK)),.F (bK r),uL]):=by
 obtain⟨b,e⟩:=Em ev r hr hl s1 s2 s3 (.O (.L (L.map bK))) s6;refine⟨.F (.int (b:Int)),b,(aK (b0 e)).trans ?_⟩;have g:=cP (t:=aZ 0) (env:=[.un,.F (bK r)]) (k:=ax (ak tR ag (a7 (ab af fNil)))) cel (λc=>bK (r++[c])) (ev.drop b) λc _=>⟨[.F (cel c),.F (bK r)],rfl,dP ((B1 (xs:=r.map cel) (ys:=[cel c]) rfl rfl (by rw[c_];simp;lia)).trans (by unfold bK;rw[Sg];rfl))⟩;have hd:(ev.drop b).length<=60:=by rw[Ul];lia
 have c1:aG (cw (rV cG af (dB bH) oNone)) [0] (aZ 0) Wl (ax (ak tR ag (a7 (ab af fNil)))) 1 [5] [.F (bS ev),s1,s2,s3,.O (.L (L.map bK)),.F (bK r),.F (.int (b:Int))]=some (.lst ((ev.drop b).map λc=>bK (r++[c]))):=
  be (bG ((Ij (ds:=ev.map cel) (m:=b) rfl rfl).trans (by rw[List.map_drop]))) rfl g (by rw[c_];lia)
 refine(F5 c1 rfl (by rw[c_,c_];lia)).trans ?_;rw[Sg,Q_];rfl
structure Of(ev:List Pt)(k:Nat)(L:List (List Pt)):Prop where
 ln:∀l∈L,l.length=k/\∀p∈l,p∈ev
theorem Bz(ev:List Pt)(hl:ev.length<=20)(k:Nat)(hk:k<=3)(L:List (List Pt))(Rt:Of ev k L)(hL:L.length<=20 ^ k)(s1 s3 s4 s5 s6:Slot):∃L' RG G0 uL,Of ev (k+1) L'/\L'.length<=20 ^ (k+1)/\eU [.F (bS ev),s1,.F (.lst (L.map bK)),s3,s4,s5,s6]=some (.nx [.F (bS ev),s1,.F (.lst (L'.map bK)),s3,RG,G0,uL]):=by
 have Og:L.length<=8000:=M_ hL (M_ (Nat.pow_le_pow_right (by decide) hk) (by decide));obtain⟨e2,g1,L',G0,uL,rfl,r1,r2⟩:=jD (t:=aZ 5) (body:=eZ) bK (λY e=>∃L' s5 s6,e=[.F (bS ev),s1,.F (.lst (L.map bK)),s3,.O (.L (L'.map bK)),s5,s6]/\Of ev (k+1) L'/\L'.length<=20*Y.length) L [] [.F (bS ev),s1,.F (.lst (L.map bK)),s3,.O (.L []),s5,s6] ⟨[],s5,s6,rfl,⟨λl hl=>by cases hl⟩,by simp⟩ λY r Z e hY az=>by
  obtain⟨L',s5,s6,rfl,r1,r2⟩:=az;have hr:r∈L:=by rw[show L=Y++r::Z from hY];exact y_ _ f_
  have RH:Y.length<=L.length:=by rw[show L=Y++r::Z from hY,h_];lia
  obtain⟨q1,q2⟩:=Rt.ln r hr;obtain⟨uL,b,e⟩:=Ed ev r q2 (by lia) (by lia) L' (by lia) s1 (.F (.lst (L.map bK))) s3 s6;refine⟨_,lr (e0:=[.F (bS ev),s1,.F (.lst (L.map bK)),s3,.O (.L (L'.map bK)),.F (bK r),s6]) rfl e,_,_,_,rfl,⟨λl hl=>?_⟩,?_⟩
  .rcases O_.mp hl with z | z
   .exact r1.ln l z
   .obtain⟨c,hc,rfl⟩:=E_.mp z;refine⟨by rw[h_,q1];rfl,λp hp=>?_⟩;rcases O_.mp hp with y | y
    .exact q2 p y
    .rw[k_.mp y];exact UX hc
  .rw[h_,h_,c_,Ul,Si];lia
 refine⟨L',_,G0,uL,r1,?_,(aK (qQ rfl)).trans ((aK ((fG (bG rfl)).trans g1)).trans ((aK rfl).trans (b0 rfl)))⟩;rw[TU,UG];exact M_ (by simpa using r2) (U8 _ hL)
theorem DV(ev:List Pt)(hl:ev.length<=20)(m:Nat)(hm:m<=4):∃rows:List (List Pt),m__law_sets [bS ev,.int (m:Int)]=some (.lst (rows.map bK))/\∀r∈rows,r.length=m:=by
 obtain⟨e2,g1,L,s3,s4,s5,s6,rfl,r1,r2⟩:=jD (t:=aZ 3) (body:=eU) (λ(i:Nat)=>D.int i) (λY e=>∃L s3 s4 s5 s6,e=[.F (bS ev),.F (.int (m:Int)),.F (.lst (L.map bK)),s3,s4,s5,s6]/\Of ev Y.length L/\L.length<=20 ^ Y.length) (List.range m) [] [.F (bS ev),.F (.int (m:Int)),.F (.lst [.tup []]),.un,.un,.un,.un] ⟨[[]],_,_,_,_,rfl,⟨λl hl=>by rw[k_.mp hl];exact⟨rfl,λp hp=>by cases hp⟩⟩,by decide⟩ λY r Z e hY az=>by
  obtain⟨L,s3,s4,s5,s6,rfl,r1,r2⟩:=az;have RH:Y.length<=3:=by
   have:=S0 List.length (show List.range m=Y++r::Z from hY);rw[Ub,h_,m_]at this;lia
  obtain⟨L',RG,G0,uL,q1,q2,q3⟩:=Bz ev hl Y.length RH L r1 r2 (.F (.int (m:Int))) (.F (.int (r:Int))) s4 s5 s6;exact⟨_,lr (e0:=[.F (bS ev),.F (.int (m:Int)),.F (.lst (L.map bK)),.F (.int (r:Int)),s4,s5,s6]) rfl q3,_,_,_,_,_,rfl,by rw[h_];exact q1,by rw[h_];exact q2⟩
 refine⟨L,bR ((aK (b0 rfl)).trans ((aK ((fG (by rw[ia (n:=m) rfl (by lia),zY])).trans g1)).trans (cB rfl))),λr hr=>?_⟩;have:=(r1.ln r hr).1;simpa using this
theorem miss:∀(A:List (List Pt))(X:List Pt),A.flatten.Nodup->X.length<A.length->∃a∈A,∀q∈a,q∉X
 | [],X,_,h=>absurd h (Nat.not_lt_zero _)
 | a::A,X,nd,h=>by
  by_cases ha:∀q∈a,q∉X
  .exact⟨a,f_,ha⟩
  .have:∃q,q∈a/\q∈X:=by
    exact Classical.byContradiction λz=>ha λq hq hX=>z ⟨q,hq,hX⟩
   obtain⟨q,hq,hX⟩:=this;rw[List.flatten_cons]at nd;obtain⟨n1,n2,n3⟩:=S1.mp nd;have fg:(X.erase q).length<A.length:=by
    rw[List.length_erase_of_mem hX];rw[m_]at h;have:=List.length_pos_of_mem hX
    lia
   obtain⟨b,hb,hbx⟩:=miss A (X.erase q) n2 fg;refine⟨b,d_ _ hb,λp hp hpX=>hbx p hp ?_⟩;have hne:p≠q:=λz=>n3 q hq p (List.mem_flatten.mpr ⟨b,hb,hp⟩) z.symm;exact(List.mem_erase_of_ne hne).mpr hpX
theorem zU{f:Fe}{env:En}{xs:Wf}(h:f env=some (.lst xs))(hp:gK xs=true):ak gv f (bV fNil) env=some (.bl xs.isEmpty):=
 Jc h rfl (HD (by unfold ec lj;lia) (by unfold pl;rw[hp];rfl)) (xF xs)
theorem Fx{f:Fe}{env:En}{xs:Wf}(h:f env=some (.lst xs))(hp:gK xs=true):ak pB f (bV fNil) env=some (.bl !xs.isEmpty):=
 HH h rfl (HD (by unfold ec lj;lia) (by unfold pl;rw[hp];rfl)) (xF xs)
theorem H9{f g:Fe}{env:En}{p:Pt}{cs:List Pt}(h1:f env=some (cel p))(h2:g env=some (bK cs)):ak (iV false) f g env=some (.bl (decide (p∈cs))):=by
 rw[br h1 h2];show(if ec (cel p)<=60/\(pl (cel p)&&gK (cs.map cel))=true then _ else _)=_;rw[i_ ⟨lE p,by rw[mR,f'];rfl⟩,<- kl];rfl
theorem xt(rs:List (List Pt)):gK (rs.map bS)=true:=lI rs λr _=>by unfold bS pl;exact f' r
theorem FB{R C n:Nat}{cE:List Pt}{es:Wf}{rs bs:List (List Pt)}(cl:Cl R C n cE es rs bs)(r:List Pt)(hr:r.length<cE.length)(s0 s1 s2 s3 s4 s5 s6 s7 s8 gi:Slot) :
  lG [s0,s1,s2,s3,s4,s5,s6,s7,s8,.F (.lst (rs.map bS)),.F (bK r),gi]=some (.nx [s0,s1,s2,s3,s4,s5,s6,s7,s8,.F (.lst (rs.map bS)),.F (bK r),gi]):=by
 have c1:∀u∈rs,fB (ak gv (aG (cw af) [0] (aZ 0) (fB (ak (iV false) af ag)) (ax af) 1 [1]) (bV fNil)) [.F (bS u),.F (bK r)]=some ((u.filter λq=>decide (q∈r)).isEmpty):=λu hu=>by
  have g:=b8 (t:=aZ 0) (env:=[.un,.F (bK r)]) (c:=fB (ak (iV false) af ag)) (k:=ax af) cel cel (λq=>decide (q∈r)) u λq _=>⟨[.F (cel q),.F (bK r)],rfl,cM (H9 rfl rfl),λ_=>rfl⟩;refine cM ((zU (be (bG (ds:=u.map cel) rfl) rfl g (by rw[c_];have:=Sj (λq=>decide (q∈r)) u;have:=cl.r4 u hu;lia)) (f' _)).trans ?_);rw[US]
 have g2:=b8 (t:=aZ 0) (env:=[.un,.F (bK r)]) (c:=fB (ak gv (aG (cw af) [0] (aZ 0) (fB (ak (iV false) af ag)) (ax af) 1 [1]) (bV fNil))) (k:=ax af) bS bS (λu=>(u.filter λq=>decide (q∈r)).isEmpty) rs λu hu=>⟨[.F (bS u),.F (bK r)],rfl,c1 u hu,λ_=>rfl⟩;have ne:((rs.filter λu=>(u.filter λq=>decide (q∈r)).isEmpty).map bS).isEmpty=false:=by
  obtain⟨A,a1,a2,a3⟩:=cl.fam;obtain⟨a,ha,hm⟩:=miss A r a3 (by rw[a1];exact hr);have FS:a∈rs.filter λu=>(u.filter λq=>decide (q∈r)).isEmpty:=SS.mpr ⟨a2 a ha,by
   rw[List.isEmpty_iff,T4];exact λq hq z=>hm q hq (H_ z)⟩
  rw[US];cases hz:rs.filter λu=>(u.filter λq=>decide (q∈r)).isEmpty with
  | nil=>rw[hz]at FS;cases FS
  | cons x y=>rfl
 have t:fB (ak gv (aG (cw uk) [0] (aZ 0) (fB (ak gv (aG (cw af) [0] (aZ 0) (fB (ak (iV false) af ag)) (ax af) 1 [1]) (bV fNil))) (ax af) 1 [10]) (bV fNil)) [s0,s1,s2,s3,s4,s5,s6,s7,s8,.F (.lst (rs.map bS)),.F (bK r),gi]=some false:=by
  refine cM ((zU (be (bG rfl) rfl g2 (by rw[c_];have:=Sj (λu:List Pt=>(u.filter λq=>decide (q∈r)).isEmpty) rs;have:=cl.rl;lia)) (xt _)).trans ?_);rw[ne]
 exact(cm t).trans rfl
omit [Th] in
theorem three{r:VX}(h:r.length=3):∃a b c,r=[a,b,c]:=by
 match r,h with
 | [a,b,c],_=>exact⟨a,b,c,rfl⟩
abbrev eV(s0:Slot)(c:Int)(a b:Int)(n R C:Nat)(cE:List Pt)(es:Wf)(rs:List (List Pt))(fP gi:Slot):En:=[s0,.F (.int c),.F (.int a),.F (.int b),.F (.int n),.F (.tup [.int R,.int C]),.F (bS cE),.F (.lst es),.F (bS (lh R C)),.F (.lst (rs.map bS)),fP,gi]
theorem yW{R C n:Nat}{cE:List Pt}{es:Wf}{rs bs:List (List Pt)}(cl:Cl R C n cE es rs bs)(hR:R<=3)(hC:C<=5)(s0:Slot)(c a b:Int)(fP gi:Slot):∃wm,iC (i9 (fB (ak gtI (bt bX bH) Wi)) (fB (ak ltI (bt bX bH) (fC (.int 6))))) (eY (cw (λenv=>((ab iU (ab (ak subI (bt bX bH) Wj) fNil)) env).bind m__law_sets)) (aZ 10) (lG )) nxF (eV s0 c a b n R C cE es rs fP gi)=some (.nx (eV s0 c a b n R C cE es rs wm gi)):=by
 have ln:bt bX bH (eV s0 c a b n R C cE es rs fP gi)=some (.int ((cE.length:Nat):Int)):=(mB (ds:=cE.map cel) rfl).trans (by rw[c_]);have t:i9 (fB (ak gtI (bt bX bH) Wi)) (fB (ak ltI (bt bX bH) (fC (.int 6)))) (eV s0 c a b n R C cE es rs fP gi)=some (decide ((0:Int)<(cE.length:Nat))&&decide (((cE.length:Nat):Int)<6)):=AA (cM ((br ln rfl).trans (ES _ _))) λ_=>cM ((br ln rfl).trans (AN _ _))
 by_cases h:0<cE.length/\cE.length<6
 .rw[x_ (show(0:Int)<(cE.length:Nat) by lia),x_ (show((cE.length:Nat):Int)<6 by lia)]at t;obtain⟨m,hm⟩:∃m,cE.length=m+1:=⟨cE.length-1,by lia⟩;have Oh:(lh R C).length<=20:=(AE ⟨R,by lia⟩ ⟨C,by lia⟩).2;obtain⟨rows,e1,hr⟩:=DV (lh R C) Oh m (by lia);have it:cw (λenv=>((ab iU (ab (ak subI (bt bX bH) Wj) fNil)) env).bind m__law_sets) (eV s0 c a b n R C cE es rs fP gi)=some (rows.map bK):=by
   refine bG ((call_v (ay (d:=bS (lh R C)) rfl (ay (d:=.int (m:Int)) ?_ bD))).trans e1);have hq:((cE.length:Nat):Int)-1=(m:Int):=by lia
   exact(br ln rfl).trans ((L9 _ _).trans (by rw[hq]))
  obtain⟨e2,g1,wm,rfl⟩:=jt (t:=aZ 10) (body:=lG) (λe=>∃fP,e=eV s0 c a b n R C cE es rs fP gi) (rows.map bK) (eV s0 c a b n R C cE es rs fP gi) ⟨_,rfl⟩ λd hd e az=>by
   obtain⟨fP,rfl⟩:=az;obtain⟨r,hrm,rfl⟩:=E_.mp hd;exact⟨_,lr (e0:=eV s0 c a b n R C cE es rs (.F (bK r)) gi) rfl (FB cl r (by rw[hr r hrm,hm];lia) _ _ _ _ _ _ _ _ _ _),_,rfl⟩
  exact⟨wm,(hV t).trans ((fG it).trans g1)⟩
 .refine⟨fP,(cm (t.trans ?_)).trans rfl⟩;congr 1;rw[Bool.and_eq_false_iff]
  by_cases h0:0<cE.length
  .exact .inr (R_ (by lia))
  .exact .inl (R_ (by lia))
theorem Ie{f g:Fe}{env:En}{p:Pt}{cs:List Pt}(h1:f env=some (cel p))(h2:g env=some (.lst (cs.map cel))):ak (iV true) f g env=some (.bl (!decide (p∈cs))):=by
 rw[br h1 h2];show(if ec (cel p)<=60/\(pl (cel p)&&gK (cs.map cel))=true then _ else _)=_;rw[i_ ⟨lE p,by rw[mR,f'];rfl⟩,<- kl];rfl
theorem wb{R C n:Nat}{cE:List Pt}{es:Wf}{rs bs:List (List Pt)}(cl:Cl R C n cE es rs bs)(hR:R<=3)(hC:C<=5)(hn:1<=n/\n<=4)(s0:Slot)(c a b:Int)(fP gi:Slot):∃wm s11',iC (fB (ak pB uk (bV fNil))) (aI (setF 11 (ak j8 bH (aG (cw (λenv=>((ab ag (ab iU fNil)) env).bind m__law_order)) [0] (aZ 0) (fB (ak (iV true) af ag)) (ax af) 1 [6]))) (eY (nE (a7 (ab vi (ab (λenv=>((ab ag (ab iU fNil)) env).bind m__law_order) fNil)))) (aZ 10) qX)) nxF (eV s0 c a b n R C cE es rs fP gi)=some (.nx (eV s0 c a b n R C cE es rs wm s11')):=by
 have t:fB (ak pB uk (bV fNil)) (eV s0 c a b n R C cE es rs fP gi)=some (!rs.isEmpty):=by
  refine cM ((Fx (xs:=rs.map bS) rfl (xt rs)).trans ?_);rw[US]
 cases hz:rs.isEmpty with
 | true=>rw[hz]at t;exact⟨fP,gi,(cm t).trans rfl⟩
 | false=>
  rw[hz]at t;have hA:(aT R C n).length<=63:=M_ (jx R C (by lia) hC n) (by decide);have h0:aT R C n≠[]:=λz=>by
   exact absurd (cl.rx z) (λy=>by rw[y]at hz;cases hz)
  obtain⟨hnd,Oh⟩:=AE ⟨R,by lia⟩ ⟨C,by lia⟩;obtain⟨qs,o1,o2⟩:=Cs c (lh R C) (by lia);have RI:∀p∈qs,p∈lh R C:=λp hp=>o2.mem_iff.mp hp;have qnd:qs.Nodup:=o2.nodup_iff.mpr hnd;have ql:qs.length<=20:=by rw[o2.length_eq];exact Oh
  have hnl:cE.length<=20:=M_ (List.Nodup.length_le_of_subset cl.nd λp hp=>cl.on p hp) Oh;have g:=b8 (t:=aZ 0) (env:=[.un,.F (bS cE)]) (c:=fB (ak (iV true) af ag)) (k:=ax af) cel cel (λq=>!decide (q∈cE)) qs λq _=>⟨[.F (cel q),.F (bS cE)],rfl,cM (Ie rfl rfl),λ_=>rfl⟩;have hfl:=Sj (λq=>!decide (q∈cE)) qs;have c1:ak j8 bH (aG (cw (λenv=>((ab ag (ab iU fNil)) env).bind m__law_order)) [0] (aZ 0) (fB (ak (iV true) af ag)) (ax af) 1 [6]) (eV s0 c a b n R C cE es rs fP gi)=some (bS (cE++qs.filter λq=>!decide (q∈cE))):=by
   refine(vM (xs:=cE.map cel) rfl (be (bG ((call_v rfl).trans o1)) rfl g (by rw[c_];lia)) (by rw[c_,c_];lia)).trans ?_;unfold bS;rw[Sg]
  have w1:=wX cl hR hC hn hA h0 (cE++qs.filter λq=>!decide (q∈cE)) (λp hp=>by
   rcases O_.mp hp with z | z
   .exact cl.on p z
   .exact RI p (SS.mp z).1) (S1.mpr ⟨cl.nd,qnd.sublist List.filter_sublist,λp hp q hq z=>by
    have:=(SS.mp hq).2;rw[<- z,x_ hp]at this;cases this⟩) (by rw[h_];lia)
  have w2:=wX cl hR hC hn hA h0 qs RI qnd (by lia);have it:nE (a7 (ab vi (ab (λenv=>((ab ag (ab iU fNil)) env).bind m__law_order) fNil))) (eV s0 c a b n R C cE es rs fP (.F (bS (cE++qs.filter λq=>!decide (q∈cE)))))=some [bS (cE++qs.filter λq=>!decide (q∈cE)),bS qs]:=oP (AJ (ay rfl (ay ((call_v rfl).trans o1) bD)));obtain⟨e2,g1,wm,rfl⟩:=jt (t:=aZ 10) (body:=qX) (λe=>∃fP,e=eV s0 c a b n R C cE es rs fP (.F (bS (cE++qs.filter λq=>!decide (q∈cE))))) [bS (cE++qs.filter λq=>!decide (q∈cE)),bS qs] (eV s0 c a b n R C cE es rs fP (.F (bS (cE++qs.filter λq=>!decide (q∈cE))))) ⟨_,rfl⟩ λd hd e az=>by
   obtain⟨fP,rfl⟩:=az;have nG:m__law_water_right [.tup [.int R,.int C],.int n,d]=some (.bl true):=by
    rcases o_.mp hd with z | z
    .rw[z];exact w1
    .rw[k_.mp z];exact w2
   have q:(fB (λenv=>((ab bc (ab aR (ab B2 fNil))) env).bind m__law_water_right)) (eV s0 c a b n R C cE es rs (.F d) (.F (bS (cE++qs.filter λq=>!decide (q∈cE)))))=some true:=cM ((call_v rfl).trans nG);exact⟨_,lr (e0:=eV s0 c a b n R C cE es rs (.F d) (.F (bS (cE++qs.filter λq=>!decide (q∈cE))))) rfl ((cm (mZ q)).trans rfl),_,rfl⟩
  exact⟨wm,_,(hV t).trans ((aK (b0 c1)).trans ((fG it).trans g1))⟩
theorem Hh(s0:Slot)(c:Int)(s2 s3 s4 s5 s6 s7 s8 s9 fP gi:Slot):∃t2 t3 t4 t5 t6 t7 t8 t9 PZ P0,qH [s0,.F (.int c),s2,s3,s4,s5,s6,s7,s8,s9,fP,gi]=some (.nx [s0,.F (.int c),t2,t3,t4,t5,t6,t7,t8,t9,PZ,P0]):=by
 obtain⟨r,d1,d2,d3⟩:=AF c [3,5,4] (by decide) (by decide);obtain⟨a,b,l,rfl⟩:=three d2;have ha:=d3 0 a 3 rfl rfl;have hb:=d3 1 b 5 rfl rfl;have hl:=d3 2 l 4 rfl rfl;obtain⟨R,hR⟩:∃R:Nat,1+a=R:=⟨(1+a).toNat,by lia⟩;obtain⟨C,hC⟩:∃C:Nat,1+b=C:=⟨(1+b).toNat,by lia⟩;obtain⟨n,hn⟩:∃n:Nat,1+l=n:=⟨(1+l).toNat,by lia⟩;obtain⟨cE,es,rs,bs,cl⟩:=closed R C n ⟨by lia,by lia⟩ ⟨by lia,by lia⟩ ⟨by lia,by lia⟩;obtain⟨u10,e1⟩:=yW cl (by lia) (by lia) s0 c a b fP gi;obtain⟨v10,v11,e2⟩:=wb cl (by lia) (by lia) ⟨by lia,by lia⟩ s0 c a b u10 gi;have z1:setF 5 (a7 (ab (ak addI Wj aj) (ab (ak addI Wj aE) fNil))) [s0,.F (.int c),.F (.int a),.F (.int b),.F (.int l),s5,s6,s7,s8,s9,fP,gi]=some (.nx [s0,.F (.int c),.F (.int a),.F (.int b),.F (.int l),.F (.tup [.int R,.int C]),s6,s7,s8,s9,fP,gi]):=b0 (d:=.tup [.int R,.int C]) (by rw[<- hR,<- hC];rfl);have z2:setF 4 (ak addI Wj aR) [s0,.F (.int c),.F (.int a),.F (.int b),.F (.int l),.F (.tup [.int R,.int C]),s6,s7,s8,s9,fP,gi]=some (.nx [s0,.F (.int c),.F (.int a),.F (.int b),.F (.int n),.F (.tup [.int R,.int C]),s6,s7,s8,s9,fP,gi]):=b0 (d:=.int n) (by rw[<- hn];rfl);have z3:wB [6,7] (λenv=>((ab (ak aV bc Wi) (ab (ak aV bc Wj) (ab aR fNil))) env).bind m_net_of) [s0,.F (.int c),.F (.int a),.F (.int b),.F (.int n),.F (.tup [.int R,.int C]),s6,s7,s8,s9,fP,gi]=some (.nx [s0,.F (.int c),.F (.int a),.F (.int b),.F (.int n),.F (.tup [.int R,.int C]),.F (bS cE),.F (.lst es),s8,s9,fP,gi]):=tZ (ds:=[bS cE,.lst es]) ((call_v (ds:=[.int R,.int C,.int n]) rfl).trans cl.nt) rfl;have z4:setF 8 (λenv=>((ab bc fNil) env).bind m__law_sheet_cells) [s0,.F (.int c),.F (.int a),.F (.int b),.F (.int n),.F (.tup [.int R,.int C]),.F (bS cE),.F (.lst es),s8,s9,fP,gi]=some (.nx [s0,.F (.int c),.F (.int a),.F (.int b),.F (.int n),.F (.tup [.int R,.int C]),.F (bS cE),.F (.lst es),.F (bS (lh R C)),s9,fP,gi]):=b0 ((call_v rfl).trans (Jo R C (by lia) (by lia)));have z5:setF 9 (λenv=>((ab (ak aV bc Wi) (ab (ak aV bc Wj) (ab aR fNil))) env).bind m__law_runs) [s0,.F (.int c),.F (.int a),.F (.int b),.F (.int n),.F (.tup [.int R,.int C]),.F (bS cE),.F (.lst es),.F (bS (lh R C)),s9,fP,gi]=some (.nx (eV s0 c a b n R C cE es rs fP gi)):=b0 ((call_v (ds:=[.int R,.int C,.int n]) rfl).trans cl.rn);exact⟨_,_,_,_,_,_,_,_,v10,v11,(aK (My (e:=[s0,.F (.int c),.F (.int a),.F (.int b),.F (.int l),s5,s6,s7,s8,s9,fP,gi]) ((call_v rfl).trans d1) rfl)).trans ((aK z1).trans ((aK z2).trans ((aK z3).trans ((aK z4).trans ((aK z5).trans ((aK e1).trans e2))))))⟩
theorem law_true(ns:VX)(hl:ns.length<=63):m_law [.lst (ns.map .int)]=some (.bl true):=by
 obtain⟨e2,g1,t1,t2,t3,t4,t5,t6,t7,t8,t9,PZ,P0,rfl⟩:=jt (t:=aZ 1) (body:=qH) (λe=>∃s1 s2 s3 s4 s5 s6 s7 s8 s9 fP gi,e=[.F (.lst (ns.map .int)),s1,s2,s3,s4,s5,s6,s7,s8,s9,fP,gi]) (((0:Int)::ns.take 8).map .int) (cb 12 [.lst (ns.map .int)]) ⟨_,_,_,_,_,_,_,_,_,_,_,rfl⟩ λd hd e az=>by
  obtain⟨s1,s2,s3,s4,s5,s6,s7,s8,s9,fP,gi,he⟩:=az;subst he;obtain⟨c,_,rfl⟩:=E_.mp hd;obtain⟨t2,t3,t4,t5,t6,t7,t8,t9,PZ,P0,u⟩:=Hh (.F (.lst (ns.map .int))) c s2 s3 s4 s5 s6 s7 s8 s9 fP gi;exact⟨_,lr (e0:=[.F (.lst (ns.map .int)),.F (.int c),s2,s3,s4,s5,s6,s7,s8,s9,fP,gi]) rfl u,_,_,_,_,_,_,_,_,_,_,_,rfl⟩
 refine bR ((aK ((fG (bG ?_)).trans g1)).trans rfl);exact(vM (xs:=[.int 0]) (ys:=(ns.map .int).take 8) rfl (Gm (m:=8) rfl rfl) (by simp;lia)).trans (by rw[<- UV];rfl)
end K25
namespace K25
open PySem PySem.Spec PyProof.Rows L2 Mi
abbrev pg:V2:=PySem.Challenge.pw_fleethide_k25_whole_none_has_fewer_cells
variable [Th]
def gt(n:Nat):V_:=pg.main.body.getD n (.Pass ⟨0,0,0,0⟩)
def st__law_stir:=gt 50
def st__law_drawn:=gt 51
def st_needs_ring:=gt 20
def st_lot_of:=gt 22
def st_ring_ships:=gt 21
def st_apart_ships:=gt 19
def st_all_cells:=gt 8
def st_net_cells:=gt 18
def st_net_of:=gt 17
def st__law_sheet_cells:=gt 52
def st__law_runs:=gt 54
def st__law_sets:=gt 55
def st__law_order:=gt 53
def st_is_tuple_of:=gt 6
def st_is_whole:=gt 4
def st_is_cell:=gt 7
def st_shot_cells:=gt 35
def st_refuse_shot:=gt 44
def st_is_size:=gt 5
def st_is_ship:=gt 9
def st_ships_of:=gt 10
def st_cells_of:=gt 11
def st_answer_to:=gt 37
def st_answers_of:=gt 36
def st_fits:=gt 38
def st_ship_fits:=gt 39
def st_rows_between:=gt 12
def st_columns_between:=gt 13
def st_keep:=gt 14
def st_may_follow:=gt 15
def st_hidings_among:=gt 32
def st_all_fitting:=gt 40
def st_some_fitting:=gt 41
def st_ship_counts:=gt 42
def st_lots_in:=gt 43
def st_bodies_of:=gt 24
def st_is_net:=gt 23
def st__law_water_right:=gt 56
def st_law:=gt 57
structure Tx(W:Wd):Prop where
 z_all:W.mg "all"=none
 z_any:W.mg "any"=none
 z_bool:W.mg "bool"=none
 z_enumerate:W.mg "enumerate"=none
 z_int:W.mg "int"=none
 z_isinstance:W.mg "isinstance"=none
 z_len:W.mg "len"=none
 z_list:W.mg "list"=none
 z_max:W.mg "max"=none
 z_min:W.mg "min"=none
 z_range:W.mg "range"=none
 z_set:W.mg "set"=none
 z_sorted:W.mg "sorted"=none
 z_sum:W.mg "sum"=none
 z_tuple:W.mg "tuple"=none
 e_ANSWERS:∃v u,W.mg "ANSWERS"=some u/\RelV v u/\∀Z,Rep W.K Z cu v
 e_GREATEST:∃v u,W.mg "GREATEST"=some u/\RelV v u/\∀Z,Rep W.K Z mY v
 e_WAYS:∃v u,W.mg "WAYS"=some u/\RelV v u/\∀Z,Rep W.K Z qb v
 hw:Th.h=hashStr W.w
section
variable {W:Wd}
abbrev gN(W:Wd):Prop:=W.Q 1 "_law_stir" 2 .cl m__law_stir
abbrev jC(W:Wd):Prop:=W.Q 2 "_law_drawn" 2 .nw m__law_drawn
abbrev jF(W:Wd):Prop:=W.Q 1 "needs_ring" 3 .cl m_needs_ring
abbrev mT(W:Wd):Prop:=W.Q 1 "lot_of" 4 .nw m_lot_of
abbrev jK(W:Wd):Prop:=W.Q 2 "ring_ships" 3 .nw m_ring_ships
abbrev iZ(W:Wd):Prop:=W.Q 3 "apart_ships" 3 .nw m_apart_ships
abbrev gU(W:Wd):Prop:=W.Q 1 "all_cells" 1 .nw m_all_cells
abbrev kQ(W:Wd):Prop:=W.Q 2 "net_cells" 3 .nw m_net_cells
abbrev tG(W:Wd):Prop:=W.Q 4 "net_of" 3 .cl m_net_of
abbrev ei(W:Wd):Prop:=W.Q 1 "_law_sheet_cells" 1 .nw m__law_sheet_cells
abbrev kP(W:Wd):Prop:=W.Q 1 "_law_runs" 3 .nw m__law_runs
abbrev kN(W:Wd):Prop:=W.Q 1 "_law_sets" 2 .cl m__law_sets
abbrev jr(W:Wd):Prop:=W.Q 2 "_law_order" 2 .nw m__law_order
abbrev e9(W:Wd):Prop:=W.Q 1 "is_tuple_of" 2 .cl m_is_tuple_of
abbrev i0(W:Wd):Prop:=W.Q 1 "is_whole" 1 .cl m_is_whole
abbrev iA(W:Wd):Prop:=W.Q 2 "is_cell" 2 .cl m_is_cell
abbrev d9(W:Wd):Prop:=W.Q 1 "shot_cells" 1 .nw m_shot_cells
abbrev iO(W:Wd):Prop:=W.Q 3 "refuse_shot" 3 .cl m_refuse_shot
abbrev oH(W:Wd):Prop:=W.Q 2 "is_size" 1 .cl m_is_size
abbrev oy(W:Wd):Prop:=W.Q 3 "is_ship" 2 .cl m_is_ship
abbrev mE(W:Wd):Prop:=W.Q 4 "ships_of" 2 .nw m_ships_of
abbrev dC(W:Wd):Prop:=W.Q 1 "cells_of" 1 .nw m_cells_of
abbrev gT(W:Wd):Prop:=W.Q 1 "answer_to" 3 .cl m_answer_to
abbrev jB(W:Wd):Prop:=W.Q 2 "answers_of" 2 .nw m_answers_of
abbrev By(W:Wd):Prop:=W.Q 3 "fits" 2 .cl m_fits
abbrev k8(W:Wd):Prop:=W.Q 4 "ship_fits" 2 .cl m_ship_fits
abbrev hW(W:Wd):Prop:=W.Q 1 "rows_between" 2 .cl m_rows_between
abbrev eN(W:Wd):Prop:=W.Q 1 "columns_between" 2 .cl m_columns_between
abbrev AS(W:Wd):Prop:=W.Q 2 "keep" 3 .cl m_keep
abbrev jH(W:Wd):Prop:=W.Q 3 "may_follow" 3 .cl m_may_follow
abbrev gx(W:Wd):Prop:=W.Q 7 "hidings_among" 2 .nw gw
abbrev iT(W:Wd):Prop:=W.Q 8 "all_fitting" 4 .nw m_all_fitting
abbrev gP(W:Wd):Prop:=W.Q 9 "some_fitting" 4 .cl m_some_fitting
abbrev iP(W:Wd):Prop:=W.Q 1 "ship_counts" 1 .nm m_ship_counts
abbrev oB(W:Wd):Prop:=W.QB 2 "lots_in" 1 1 eh
abbrev Bj(W:Wd)(C:V8):Prop:=W.QI 10 C Cg B7 "Answerer" 3 m_init
abbrev pv(W:Wd)(C:V8):Prop:=W.QM 4 C Cg B7 "lots_at" 1 ee
abbrev z0(W:Wd)(C:V8):Prop:=W.QM 1 C Cg B7 "note" 3 mw
abbrev wy(W:Wd)(C:V8):Prop:=W.QM 6 C Cg B7 "shoot" 1 ju
abbrev k9(W:Wd):Prop:=W.Q 2 "bodies_of" 3 .nw m_bodies_of
abbrev sN(W:Wd):Prop:=W.Q 3 "is_net" 4 .cl m_is_net
abbrev eB(W:Wd):Prop:=W.Q 12 "_law_water_right" 3 .cl m__law_water_right
theorem pU(h:W.At "_law_stir" st__law_stir)(T:Tx W):gN W:=gJ ["cell","k","number"] 2 h λ_ _ _ _ _ _ _ hr hN=>(ao (bw 2 (md (bg (bg (gu (aa 0) (xv ar ar)) (md ar (aa 1))) ar) ar) hN) (ao (bw 2 (gu (aa 2) ar) hN) (aA (aS (Ax (gu (xv (bg (xv (aa 2) ar) (md ar (aa 1))) ar) ar) ar)))))
theorem nV(h:W.At "_law_drawn" st__law_drawn)(T:Tx W)(il:gN W):jC W:=gJ ["cell","sizes","found","rest","k"] 2 h λ_ _ _ _ _ _ _ hr hN=>(ao (jb 2 (dr ah) hN) (ao (bw 3 (aa 0) hN) (ao (d6 Sm rfl (a5 T.z_range (iS T.z_len (aa 1))) (aC 4 hN) (aA (d8 (LO (w_or (I9 (aa 0) (xv ar ar)) (Gw (iE hr (aa 3) ar)))) (aA (xw 2 (gu (aM il hr (ae (aa 0) (ae (aa 4) ah))) (a6 (aa 1) (aa 4))))) (ao (xw 2 (gu (aa 3) (a6 (aa 1) (aa 4)))) (aA (bw 3 (Ax (aa 3) (a6 (aa 1) (aa 4))) hN)))))) (aA (kg 2)))))
theorem nX(h:W.At "needs_ring" st_needs_ring)(T:Tx W):jF W:=gJ ["rows","columns","length"] 3 h λ_ _ _ _ _ _ _ hr hN=>(aA (aS (kZ (Hr (aa 2) (LF T.z_min rfl (aa 0) (aa 1))) (o4 (zC (bg (gu (aa 0) (aa 2)) (gu (aa 1) (aa 2))) (aa 2))))))
theorem yS(h:W.At "lot_of" st_lot_of)(T:Tx W):mT W:=gJ ["corner","size","way","length","top","left","high","wide","places"] 4 h λ_ _ _ _ _ _ _ hr hN=>(ao (vh rfl (aa 0) (aH 4 hN (aH 5 hN cq))) (ao (vh rfl (aa 1) (aH 6 hN (aH 7 hN cq))) (ao (d8 (iE hr (aa 2) bL) (aA (gZ 8 (gY (Nc:=["row","column","wide","length"]) (own:=["row","column"]) (caps:=[7,3]) (aN 0) rfl (a5 T.z_range (aa 6)) rfl rfl (λ_ _ _ _ _ _=>have hN:=(by decide +kernel:List.Nodup (["row","column","wide","length"]:VS));(fy (λ_ _ z=>z) rfl (aC 0 hN) aO (uh T.z_range ar (bg (cC (aa 2) (aa 3)) ar) (aa 3)) (aN 1) (aB (λ_ _ z=>z) (aC 1 hN) aO (aX (ae (aa 0) (ae (aa 1) ah))))))) hN)) (aA (gZ 8 (gY (Nc:=["row","column","wide"]) (own:=["row","column"]) (caps:=[7]) (aN 0) rfl (uh T.z_range ar (bg (cC (aa 6) (aa 3)) ar) (aa 3)) rfl rfl (λ_ _ _ _ _ _=>have hN:=(by decide +kernel:List.Nodup (["row","column","wide"]:VS));(fy (λ_ _ z=>z) rfl (aC 0 hN) aO (a5 T.z_range (aa 2)) (aN 1) (aB (λ_ _ z=>z) (aC 1 hN) aO (aX (ae (aa 0) (ae (aa 1) ah))))))) hN))) (aA (aS (a8 (Nc:=["row","column","top","left","way","length"]) (own:=["row","column"]) (caps:=[4,5,2,3]) (ij [0,1]) rfl (aW (aa 8)) rfl rfl (λ_ _ _ _ _ _=>have hN:=(by decide +kernel:List.Nodup (["row","column","top","left","way","length"]:VS));(aB (λ_ _ z=>z) (iW rfl (aH 0 hN (aH 1 hN cq))) aO (aX (ae (bg (aa 2) (aa 0)) (ae (bg (aa 3) (aa 1)) (ae (aa 4) (ae (aa 5) ah)))))))))))))
theorem n4(h:W.At "ring_ships" st_ring_ships)(T:Tx W)(de:mT W):jK W:=gJ ["rows","columns","length","high","wide","top","left","ships"] 3 h λ_ _ _ _ _ _ _ hr hN=>(ao (F6 3 4 rfl hN (ae (gu (aa 0) (aa 2)) (ae (gu (aa 1) (aa 2)) ah))) (ao (F6 5 6 rfl hN (ae (cC (cC (aa 0) (aa 2)) (aa 3)) (ae (cC (cC (aa 1) (aa 2)) (aa 4)) ah))) (ao (jb 7 (aM de hr (ae (aX (ae ar (ae ar ah))) (ae (aX (ae (aa 5) (ae (aa 1) ah))) (ae bL (ae (aa 2) ah))))) hN) (ao (pJ 7 (aM de hr (ae (aX (ae (aa 5) (ae ar ah))) (ae (aX (ae (bg (aa 2) (aa 3)) (ae (aa 6) ah))) (ae bL (ae (aa 2) ah))))) hN) (ao (pJ 7 (aM de hr (ae (aX (ae (aa 5) (ae (aa 6) ah))) (ae (aX (ae (aa 3) (ae (aa 2) ah))) (ae bL (ae (aa 2) ah))))) hN) (ao (pJ 7 (aM de hr (ae (aX (ae (aa 5) (ae (bg (aa 6) (aa 2)) ah))) (ae (aX (ae (aa 2) (ae (aa 4) ah))) (ae bL (ae (aa 2) ah))))) hN) (ao (pJ 7 (aM de hr (ae (aX (ae (bg (aa 5) (aa 2)) (ae (bg (aa 6) (aa 4)) ah))) (ae (aX (ae (aa 3) (ae (aa 2) ah))) (ae bL (ae (aa 2) ah))))) hN) (ao (pJ 7 (aM de hr (ae (aX (ae (bg (aa 5) (aa 3)) (ae (aa 6) ah))) (ae (aX (ae (aa 2) (ae (aa 4) ah))) (ae bL (ae (aa 2) ah))))) hN) (aA (kg 7))))))))))
theorem mI(h:W.At "apart_ships" st_apart_ships)(T:Tx W)(k_needs_ring:jF W)(k_ring_ships:jK W)(de:mT W):iZ W:=gJ ["rows","columns","length","wide","along"] 3 h λ_ _ _ _ _ _ _ hr hN=>(ao (d8 (eO (aM k_needs_ring hr (ae (aa 0) (ae (aa 1) (ae (aa 2) ah))))) (aA (aS (aM k_ring_ships hr (ae (aa 0) (ae (aa 1) (ae (aa 2) ah)))))) cy) (ao (bw 3 (cC (aa 1) (gu (aa 1) (aa 2))) hN) (ao (bw 4 (bW (aM de hr (ae (aX (ae ar (ae ar ah))) (ae (aX (ae (aa 0) (ae (aa 3) ah))) (ae bL (ae (aa 2) ah)))))) hN) (aA (aS (lX (aa 4) (aM de hr (ae (aX (ae ar (ae (aa 3) ah))) (ae (aX (ae (aa 0) (ae (cC (aa 1) (aa 3)) ah))) (ae bL (ae (aa 2) ah)))))))))))
theorem qG(h:W.At "all_cells" st_all_cells)(T:Tx W):gU W:=gJ ["sheet","rows","columns"] 1 h λ_ _ _ _ _ _ _ hr hN=>(ao (vh rfl (aa 0) (aH 1 hN (aH 2 hN cq))) (aA (aS (a8 (Nc:=["row","column","columns"]) (own:=["row","column"]) (caps:=[2]) (aN 0) rfl (a5 T.z_range (aa 1)) rfl rfl (λ_ _ _ _ _ _=>have hN:=(by decide +kernel:List.Nodup (["row","column","columns"]:VS));(fy (λ_ _ z=>z) rfl (aC 0 hN) aO (a5 T.z_range (aa 2)) (aN 1) (aB (λ_ _ z=>z) (aC 1 hN) aO (aX (ae (aa 0) (ae (aa 1) ah))))))))))
theorem qe(h:W.At "net_cells" st_net_cells)(T:Tx W)(ip:gU W):kQ W:=gJ ["rows","columns","length","down","along","cells"] 3 h λ_ _ _ _ _ _ _ hr hN=>(ao (bw 3 (jG (Mt (aa 2) (aa 0)) ar ar) hN) (ao (bw 4 (jG (Mt (aa 2) (aa 1)) ar ar) hN) (ao (bw 5 (bW (aM ip hr (ae (aX (ae (aa 0) (ae (aa 1) ah))) ah))) hN) (aA (aS (a8 (Nc:=["row","column","down","along","length"]) (own:=["row","column"]) (caps:=[3,4,2]) (ij [0,1]) rfl (aW (aa 5)) rfl rfl (λ_ _ _ _ _ _=>have hN:=(by decide +kernel:List.Nodup (["row","column","down","along","length"]:VS));(aB (λ_ _ z=>z) (iW rfl (aH 0 hN (aH 1 hN cq))) (dR (λ_ _ z=>z) (iE hr (gu (bg (md (aa 0) (aa 2)) (md (aa 1) (aa 3))) (aa 4)) (cC (aa 4) ar))) (aX (ae (aa 0) (ae (aa 1) ah)))))))))))
theorem yn(h:W.At "net_of" st_net_of)(T:Tx W)(k_apart_ships:iZ W)(k_net_cells:kQ W):tG W:=gJ ["rows","columns","length"] 3 h λ_ _ _ _ _ _ _ hr hN=>(aA (aS (aX (ae (bW (aM k_net_cells hr (ae (aa 0) (ae (aa 1) (ae (aa 2) ah))))) (ae (bW (EZ T.z_sorted (aM k_apart_ships hr (ae (aa 0) (ae (aa 1) (ae (aa 2) ah)))))) ah)))))
theorem iI(h:W.At "_law_sheet_cells" st__law_sheet_cells)(T:Tx W):ei W:=gJ ["sheet","found","row"] 1 h λ_ _ _ _ _ _ _ hr hN=>(ao (jb 1 (dr ah) hN) (ao (d6 Sm rfl (a5 T.z_range (a6 (aa 0) ar)) (aC 2 hN) (aA (F1 1 (a8 (Nc:=["column","row"]) (own:=["column"]) (caps:=[2]) (aN 0) rfl (a5 T.z_range (a6 (aa 0) ar)) rfl rfl (λ_ _ _ _ _ _=>have hN:=(by decide +kernel:List.Nodup (["column","row"]:VS));(aB (λ_ _ z=>z) (aC 0 hN) aO (aX (ae (aa 1) (ae (aa 0) ah))))))))) (aA (kg 1))))
theorem pQ(h:W.At "_law_runs" st__law_runs)(T:Tx W):kP W:=gJ ["rows","columns","length","found","row","column"] 3 h λ_ _ _ _ _ _ _ hr hN=>(ao (jb 3 (dr ah) hN) (ao (d6 Sm rfl (a5 T.z_range (aa 0)) (aC 4 hN) (aA (d6 Sm rfl (a5 T.z_range (bg (cC (aa 1) (aa 2)) ar)) (aC 5 hN) (aA (xw 3 (bW (a8 (Nc:=["k","row","column"]) (own:=["k"]) (caps:=[4,5]) (aN 0) rfl (a5 T.z_range (aa 2)) rfl rfl (λ_ _ _ _ _ _=>have hN:=(by decide +kernel:List.Nodup (["k","row","column"]:VS));(aB (λ_ _ z=>z) (aC 0 hN) aO (aX (ae (aa 1) (ae (bg (aa 2) (aa 0)) ah)))))))))))) (ao (d6 Sm rfl (a5 T.z_range (md (bg (cC (aa 0) (aa 2)) ar) (IP T.z_int (zC (aa 2) ar)))) (aC 4 hN) (aA (d6 Sm rfl (a5 T.z_range (aa 1)) (aC 5 hN) (aA (xw 3 (bW (a8 (Nc:=["k","row","column"]) (own:=["k"]) (caps:=[4,5]) (aN 0) rfl (a5 T.z_range (aa 2)) rfl rfl (λ_ _ _ _ _ _=>have hN:=(by decide +kernel:List.Nodup (["k","row","column"]:VS));(aB (λ_ _ z=>z) (aC 0 hN) aO (aX (ae (bg (aa 1) (aa 0)) (ae (aa 2) ah)))))))))))) (aA (kg 3)))))
theorem pT(h:W.At "_law_sets" st__law_sets)(T:Tx W):kN W:=gJ ["cells","many","rows","turn","longer","row","begin"] 2 h λ_ _ _ _ _ _ _ hr hN=>(ao (bw 2 (bW (dr (ae (aX ah) ah))) hN) (ao (d6 Sm rfl (a5 T.z_range (aa 1)) (aC 3 hN) (ao (jb 4 (dr ah) hN) (ao (d6 Sm rfl (aW (aa 2)) (aC 5 hN) (ao (bw 6 (jG (Ak hr (aa 5) (aX ah)) (bg (E6 hr (aa 0) (a6 (aa 5) (Gh ar))) ar) ar) hN) (aA (F1 4 (a8 (Nc:=["cell","row"]) (own:=["cell"]) (caps:=[5]) (aN 0) rfl (aW (bW (sD (aa 0) (mz (aa 6)) mH))) rfl rfl (λ_ _ _ _ _ _=>have hN:=(by decide +kernel:List.Nodup (["cell","row"]:VS));(aB (λ_ _ z=>z) (aC 0 hN) aO (Co (aa 1) (aX (ae (aa 0) ah)))))))))) (LA 4 (aA (bw 2 (aa 4) hN)))))) (aA (aS (aa 2)))))
theorem nK(h:W.At "_law_order" st__law_order)(T:Tx W)(il:gN W):jr W:=gJ ["cell","things","found","k","thing"] 2 h λ_ _ _ _ _ _ _ hr hN=>(ao (jb 2 (dr ah) hN) (ao (d6 Sm rfl (Ck T.z_enumerate (aa 1)) (iW rfl (aH 3 hN (aH 4 hN cq))) (aA (KC 2 (gu (aM il hr (ae (aa 0) (ae (bg (md ar (aa 3)) ar) ah))) (bg (aa 3) ar)) (aa 4)))) (aA (kg 2))))
theorem mG(h:W.At "is_tuple_of" st_is_tuple_of)(T:Tx W):e9 W:=gJ ["thing","many"] 2 h λ_ _ _ _ _ _ _ hr hN=>(aA (aS (kZ (Bv .tuple T.z_isinstance T.z_tuple (aa 0)) (o4 (LB hr (iS T.z_len (aa 0)) (aa 1))))))
theorem tW(h:W.At "is_whole" st_is_whole)(T:Tx W):i0 W:=gJ ["thing"] 1 h λ_ _ _ _ _ _ _ hr hN=>(aA (aS (kZ (Bv .int T.z_isinstance T.z_int (aa 0)) (o4 (KL (Bv .bool T.z_isinstance T.z_bool (aa 0)))))))
theorem vV(h:W.At "is_cell" st_is_cell)(T:Tx W)(fm:e9 W)(gj:i0 W):iA W:=gJ ["sheet","thing","row","column"] 2 h λ_ _ _ _ _ _ _ hr hN=>(ao (d8 (iQ (eO (aM fm hr (ae (aa 1) (ae ar ah))))) (aA (aS lx)) cy) (ao (vh rfl (aa 1) (aH 2 hN (aH 3 hN cq))) (aA (aS (kZ (aM gj hr (ae (aa 2) ah)) (kZ (aM gj hr (ae (aa 3) ah)) (kZ (qu pN Ap xY IT ar (aa 2) (a6 (aa 0) ar)) (o4 (qu pN Ap xY IT ar (aa 3) (a6 (aa 0) ar))))))))))
theorem n5(h:W.At "shot_cells" st_shot_cells)(T:Tx W):d9 W:=gJ ["record"] 1 h λ_ _ _ _ _ _ _ hr hN=>(aA (aS (a8 (Nc:=["cell","answer"]) (own:=["cell","answer"]) (caps:=[]) (ij [0,1]) rfl (aW (aa 0)) rfl rfl (λ_ _ _ _ _ _=>have hN:=(by decide +kernel:List.Nodup (["cell","answer"]:VS));(aB (λ_ _ z=>z) (iW rfl (aH 0 hN (aH 1 hN cq))) aO (aa 0))))))
theorem m5(h:W.At "refuse_shot" st_refuse_shot)(T:Tx W)(fO:iA W)(df:d9 W):iO W:=Sb ["sheet","record","cell"] 3 h λ_ _ _ _ _ _ _ hr hN=>(ao (d8 (iQ (eO (aM fO hr (ae (aa 0) (ae (aa 2) ah))))) (aA pY) cy) (aA (d8 (BD hr (aa 2) (aM df hr (ae (aa 1) ah))) (aA pY) cy)))
theorem wa(h:W.At "is_size" st_is_size)(T:Tx W)(gj:i0 W):oH W:=by
 obtain⟨v_GREATEST,u_GREATEST,g_GREATEST,rv_GREATEST,r_GREATEST⟩:=T.e_GREATEST;exact gJ ["thing"] 1 h λ_ _ _ _ _ _ _ hr hN=>(aA (aS (kZ (aM gj hr (ae (aa 0) ah)) (o4 (qu pN pN xY xY ar (aa 0) (my g_GREATEST rv_GREATEST r_GREATEST))))))
theorem vC(h:W.At "is_ship" st_is_ship)(T:Tx W)(fm:e9 W)(k_is_size:oH W)(fO:iA W):oy W:=by
 obtain⟨v_WAYS,u_WAYS,wo,rR,wq⟩:=T.e_WAYS;exact gJ ["sheet","thing","row","column","way","length"] 2 h λ_ _ _ _ _ _ _ hr hN=>(ao (d8 (iQ (eO (aM fm hr (ae (aa 1) (ae ar ah))))) (aA (aS lx)) cy) (ao (vh rfl (aa 1) (aH 2 hN (aH 3 hN (aH 4 hN (aH 5 hN cq))))) (ao (d8 (LO (w_or (Gp hr (aa 4) (my wo rR wq)) (w_or (iQ (eO (aM k_is_size hr (ae (aa 5) ah)))) (Gw (iQ (eO (aM fO hr (ae (aa 0) (ae (aX (ae (aa 2) (ae (aa 3) ah))) ah))))))))) (aA (aS lx)) cy) (ao (d8 (iE hr (aa 4) bL) (aA (aS (kZ (zC (aa 5) ar) (o4 (Hr (bg (aa 2) (aa 5)) (a6 (aa 0) ar)))))) cy) (aA (aS (Hr (bg (aa 3) (aa 5)) (a6 (aa 0) ar))))))))
theorem tf(h:W.At "ships_of" st_ships_of)(T:Tx W)(ip:gU W)(k_is_ship:oy W):mE W:=by
 obtain⟨v_WAYS,u_WAYS,wo,rR,wq⟩:=T.e_WAYS;exact gJ ["sheet","length","ships"] 2 h λ_ _ _ _ _ _ _ hr hN=>(ao (gZ 2 (gY (Nc:=["row","column","way","length"]) (own:=["row","column","way"]) (caps:=[1]) (ij [0,1]) rfl (aW (bW (aM ip hr (ae (aa 0) ah)))) rfl rfl (λ_ _ _ _ _ _=>have hN:=(by decide +kernel:List.Nodup (["row","column","way","length"]:VS));(fy (λ_ _ z=>z) rfl (iW rfl (aH 0 hN (aH 1 hN cq))) aO (kR (my wo rR wq)) (aN 2) (aB (λ_ _ z=>z) (aC 2 hN) aO (aX (ae (aa 0) (ae (aa 1) (ae (aa 2) (ae (aa 3) ah))))))))) hN) (aA (aS (a8 (Nc:=["ship","sheet"]) (own:=["ship"]) (caps:=[0]) (aN 0) rfl (aW (aa 2)) rfl rfl (λ_ _ _ _ _ _=>have hN:=(by decide +kernel:List.Nodup (["ship","sheet"]:VS));(aB (λ_ _ z=>z) (aC 0 hN) (dR (λ_ _ z=>z) (eO (aM k_is_ship hr (ae (aa 1) (ae (aa 0) ah))))) (aa 0)))))))
theorem ur(h:W.At "cells_of" st_cells_of)(T:Tx W):dC W:=gJ ["ship","row","column","way","length"] 1 h λ_ _ _ _ _ _ _ hr hN=>(ao (vh rfl (aa 0) (aH 1 hN (aH 2 hN (aH 3 hN (aH 4 hN cq))))) (ao (d8 (iE hr (aa 3) bL) (aA (aS (a8 (Nc:=["step","row","column"]) (own:=["step"]) (caps:=[1,2]) (aN 0) rfl (a5 T.z_range (aa 4)) rfl rfl (λ_ _ _ _ _ _=>have hN:=(by decide +kernel:List.Nodup (["step","row","column"]:VS));(aB (λ_ _ z=>z) (aC 0 hN) aO (aX (ae (bg (aa 1) (aa 0)) (ae (aa 2) ah)))))))) cy) (aA (aS (a8 (Nc:=["step","row","column"]) (own:=["step"]) (caps:=[1,2]) (aN 0) rfl (a5 T.z_range (aa 4)) rfl rfl (λ_ _ _ _ _ _=>have hN:=(by decide +kernel:List.Nodup (["step","row","column"]:VS));(aB (λ_ _ z=>z) (aC 0 hN) aO (aX (ae (aa 1) (ae (bg (aa 2) (aa 0)) ah))))))))))
theorem qi(h:W.At "answer_to" st_answer_to)(T:Tx W):gT W:=gJ ["bodies","cell","shot","body"] 3 h λ_ _ _ _ _ _ _ hr hN=>(ao (d6 Sm rfl (aW (aa 0)) (aC 3 hN) (aA (d8 (BD hr (aa 1) (aa 3)) (aA (aS (jG (eO (AI T.z_all rfl (a8 (Nc:=["part","shot"]) (own:=["part"]) (caps:=[2]) (aN 0) rfl (aW (aa 3)) rfl rfl (λ_ _ _ _ _ _=>have hN:=(by decide +kernel:List.Nodup (["part","shot"]:VS));(aB (λ_ _ z=>z) (aC 0 hN) aO (ON hr (aa 0) (aa 1))))))) bL bL))) cy))) (aA (aS bL)))
theorem n8(h:W.At "answers_of" st_answers_of)(T:Tx W)(bZ:dC W)(iq:gT W):jB W:=gJ ["hiding","cells","bodies"] 2 h λ_ _ _ _ _ _ _ hr hN=>(ao (bw 2 (bW (a8 (Nc:=["ship"]) (own:=["ship"]) (caps:=[]) (aN 0) rfl (kR (aa 0)) rfl rfl (λ_ _ _ _ _ _=>have hN:=(by decide +kernel:List.Nodup (["ship"]:VS));(aB (λ_ _ z=>z) (aC 0 hN) aO (bW (aM bZ hr (ae (aa 0) ah))))))) hN) (aA (aS (a8 (Nc:=["at","cell","bodies","cells"]) (own:=["at","cell"]) (caps:=[2,1]) (ij [0,1]) rfl (Ck T.z_enumerate (aa 1)) rfl rfl (λ_ _ _ _ _ _=>have hN:=(by decide +kernel:List.Nodup (["at","cell","bodies","cells"]:VS));(aB (λ_ _ z=>z) (iW rfl (aH 0 hN (aH 1 hN cq))) aO (aM iq hr (ae (aa 2) (ae (aa 1) (ae (bW (sD (aa 3) mH (mz (bg (aa 0) ar)))) ah))))))))))
theorem Fk(h:W.At "fits" st_fits)(T:Tx W)(k_answers_of:jB W)(df:d9 W):By W:=gJ ["hiding","record"] 2 h λ_ _ _ _ _ _ _ hr hN=>(aA (aS (LB hr (aM k_answers_of hr (ae (aa 0) (ae (bW (aM df hr (ae (aa 1) ah))) ah))) (a8 (Nc:=["cell","answer"]) (own:=["cell","answer"]) (caps:=[]) (ij [0,1]) rfl (aW (aa 1)) rfl rfl (λ_ _ _ _ _ _=>have hN:=(by decide +kernel:List.Nodup (["cell","answer"]:VS));(aB (λ_ _ z=>z) (iW rfl (aH 0 hN (aH 1 hN cq))) aO (aa 1)))))))
theorem qj(h:W.At "ship_fits" st_ship_fits)(T:Tx W)(bZ:dC W)(k_fits:By W):k8 W:=gJ ["ship","record","body"] 2 h λ_ _ _ _ _ _ _ hr hN=>(ao (bw 2 (bW (aM bZ hr (ae (aa 0) ah))) hN) (aA (aS (aM k_fits hr (ae (aX (ae (aa 0) ah)) (ae (bW (a8 (Nc:=["cell","answer","body"]) (own:=["cell","answer"]) (caps:=[2]) (ij [0,1]) rfl (aW (aa 1)) rfl rfl (λ_ _ _ _ _ _=>have hN:=(by decide +kernel:List.Nodup (["cell","answer","body"]:VS));(aB (λ_ _ z=>z) (iW rfl (aH 0 hN (aH 1 hN cq))) (dR (λ_ _ z=>z) (BD hr (aa 0) (aa 2))) (aX (ae (aa 0) (ae (aa 1) ah))))))) ah))))))
theorem ll(h:W.At "rows_between" st_rows_between)(T:Tx W):hW W:=gJ ["one","other","one_last","other_last"] 2 h λ_ _ _ _ _ _ _ hr hN=>(ao (bw 2 (jG (iE hr (a6 (aa 0) ar) bL) (cC (bg (a6 (aa 0) ar) (a6 (aa 0) ar)) ar) (a6 (aa 0) ar)) hN) (ao (bw 3 (jG (iE hr (a6 (aa 1) ar) bL) (cC (bg (a6 (aa 1) ar) (a6 (aa 1) ar)) ar) (a6 (aa 1) ar)) hN) (aA (aS (Cj T.z_max rfl (cC (a6 (aa 1) ar) (aa 2)) (cC (a6 (aa 0) ar) (aa 3)) ar)))))
theorem jd(h:W.At "columns_between" st_columns_between)(T:Tx W):eN W:=gJ ["one","other","one_last","other_last"] 2 h λ_ _ _ _ _ _ _ hr hN=>(ao (bw 2 (jG (iE hr (a6 (aa 0) ar) bL) (cC (bg (a6 (aa 0) ar) (a6 (aa 0) ar)) ar) (a6 (aa 0) ar)) hN) (ao (bw 3 (jG (iE hr (a6 (aa 1) ar) bL) (cC (bg (a6 (aa 1) ar) (a6 (aa 1) ar)) ar) (a6 (aa 1) ar)) hN) (aA (aS (Cj T.z_max rfl (cC (a6 (aa 1) ar) (aa 2)) (cC (a6 (aa 0) ar) (aa 3)) ar)))))
theorem E5(h:W.At "keep" st_keep)(T:Tx W)(k_rows_between:hW W)(k_columns_between:eN W):AS W:=gJ ["rule","one","other","rows","columns"] 3 h λ_ _ _ _ _ _ _ hr hN=>(ao (bw 3 (aM k_rows_between hr (ae (aa 1) (ae (aa 2) ah))) hN) (ao (bw 4 (aM k_columns_between hr (ae (aa 1) (ae (aa 2) ah))) hN) (ao (d8 (iE hr (aa 0) bL) (aA (aS (zC (bg (aa 3) (aa 4)) ar))) cy) (ao (d8 (iE hr (aa 0) bL) (aA (aS (zC (bg (aa 3) (aa 4)) ar))) cy) (aA (aS (zC (Lj T.z_max rfl (aa 3) (aa 4)) ar)))))))
theorem nJ(h:W.At "may_follow" st_may_follow)(T:Tx W)(k_keep:AS W):jH W:=gJ ["rule","ship","other"] 3 h λ_ _ _ _ _ _ _ hr hN=>(ao (d8 (LO (w_and (iE hr (a6 (aa 2) ar) (a6 (aa 1) ar)) (vZ (Mw hr (aa 2) (aa 1))))) (aA (aS lx)) cy) (aA (aS (aM k_keep hr (ae (aa 0) (ae (aa 1) (ae (aa 2) ah)))))))
theorem j6(h:W.At "hidings_among" st_hidings_among)(T:Tx W)(k_may_follow:jH W):gx W:=R6 (k:=3) (m:=a9) (fb:=λi=>cQ (a9 i)) ["rule","choices","first","rest","found","ship","left"] 2 4 h rfl (λ_=>rfl) λi K_hidings_among _ _ _ _ _ _ _ hr hN=>(ao (G5 2 3 rfl (aa 1) hN) (ao (d8 (iQ (A8 (aa 3))) (aA (aS (a8 (Nc:=["ship"]) (own:=["ship"]) (caps:=[]) (aN 0) rfl (aW (aa 2)) rfl rfl (λ_ _ _ _ _ _=>have hN:=(by decide +kernel:List.Nodup (["ship"]:VS));(aB (λ_ _ z=>z) (aC 0 hN) aO (aX (ae (aa 0) ah))))))) cy) (ao (jb 4 (dr ah) hN) (ao (d6 Sm rfl (aW (aa 2)) (aC 5 hN) (ao (gZ 6 (gY (Nc:=["others","rule","ship"]) (own:=["others"]) (caps:=[0,5]) (aN 0) rfl (aW (aa 3)) rfl rfl (λ_ _ _ _ _ _=>have hN:=(by decide +kernel:List.Nodup (["others","rule","ship"]:VS));(aB (λ_ _ z=>z) (aC 0 hN) aO (bW (a8 (Nc:=["other","rule","ship"]) (own:=["other"]) (caps:=[1,2]) (aN 0) rfl (aW (aa 0)) rfl rfl (λ_ _ _ _ _ _=>have hN:=(by decide +kernel:List.Nodup (["other","rule","ship"]:VS));(aB (λ_ _ z=>z) (aC 0 hN) (dR (λ_ _ z=>z) (eO (aM k_may_follow hr (ae (aa 1) (ae (aa 2) (ae (aa 0) ah)))))) (aa 0)))))))) hN) (aA (pJ 4 (a8 (Nc:=["others","ship"]) (own:=["others"]) (caps:=[5]) (aN 0) rfl (aW (bW (Bp K_hidings_among hr (ae (aa 0) (ae (aa 6) ah))))) rfl rfl (λ_ _ _ _ _ _=>have hN:=(by decide +kernel:List.Nodup (["others","ship"]:VS));(aB (λ_ _ z=>z) (aC 0 hN) aO (Co (aX (ae (aa 1) ah)) (aa 0))))) hN)))) (aA (kg 4))))))
theorem m6(h:W.At "all_fitting" st_all_fitting)(T:Tx W)(k_ships_of:mE W)(k_ship_fits:k8 W)(bZ:dC W)(k_hidings_among:gx W):iT W:=gJ ["sheet","fleet","rule","record","struck","choices","strikes","found"] 4 h λ_ _ _ _ _ _ _ hr hN=>(ao (bw 4 (bW (a8 (Nc:=["cell","answer"]) (own:=["cell","answer"]) (caps:=[]) (ij [0,1]) rfl (aW (aa 3)) rfl rfl (λ_ _ _ _ _ _=>have hN:=(by decide +kernel:List.Nodup (["cell","answer"]:VS));(aB (λ_ _ z=>z) (iW rfl (aH 0 hN (aH 1 hN cq))) (dR (λ_ _ z=>z) (Ak hr (aa 1) bL)) (aa 0))))) hN) (ao (gZ 5 (gY (Nc:=["length","sheet","record"]) (own:=["length"]) (caps:=[0,3]) (aN 0) rfl (kR (aa 1)) rfl rfl (λ_ _ _ _ _ _=>have hN:=(by decide +kernel:List.Nodup (["length","sheet","record"]:VS));(aB (λ_ _ z=>z) (aC 0 hN) aO (bW (a8 (Nc:=["ship","record"]) (own:=["ship"]) (caps:=[2]) (aN 0) rfl (aW (bW (aM k_ships_of hr (ae (aa 1) (ae (aa 0) ah))))) rfl rfl (λ_ _ _ _ _ _=>have hN:=(by decide +kernel:List.Nodup (["ship","record"]:VS));(aB (λ_ _ z=>z) (aC 0 hN) (dR (λ_ _ z=>z) (eO (aM k_ship_fits hr (ae (aa 0) (ae (aa 1) ah))))) (aa 0)))))))) hN) (ao (bw 6 (GE (wK (Nc:=["ships","ship","struck"]) (own:=["ships","ship"]) (caps:=[4]) T.hw (aN 0) rfl (aW (aa 5)) rfl rfl (λ_ _ _ _ _ _=>have hN:=(by decide +kernel:List.Nodup (["ships","ship","struck"]:VS));(yO (λ_ _ z=>z) rfl (aC 0 hN) aO (aW (aa 0)) (aN 1) (oR (oW hr) (λ_ _ z=>z) (aC 1 hN) aO (aa 1) (iS T.z_len (a8 (Nc:=["cell","struck"]) (own:=["cell"]) (caps:=[2]) (aN 0) rfl (aW (bW (aM bZ hr (ae (aa 1) ah)))) rfl rfl (λ_ _ _ _ _ _=>have hN:=(by decide +kernel:List.Nodup (["cell","struck"]:VS));(aB (λ_ _ z=>z) (aC 0 hN) (dR (λ_ _ z=>z) (BD hr (aa 0) (aa 1))) (aa 0)))))))))) hN) (ao (bw 7 (bW (aM k_hidings_among hr (ae (aa 2) (ae (aa 5) ah)))) hN) (aA (aS (a8 (Nc:=["hiding","strikes","struck"]) (own:=["hiding"]) (caps:=[6,4]) (aN 0) rfl (aW (aa 7)) rfl rfl (λ_ _ _ _ _ _=>have hN:=(by decide +kernel:List.Nodup (["hiding","strikes","struck"]:VS));(aB (λ_ _ z=>z) (aC 0 hN) (dR (λ_ _ z=>z) (iE hr (LX T.z_sum rfl (a8 (Nc:=["ship","strikes"]) (own:=["ship"]) (caps:=[1]) (aN 0) rfl (kR (aa 0)) rfl rfl (λ_ _ _ _ _ _=>have hN:=(by decide +kernel:List.Nodup (["ship","strikes"]:VS));(aB (λ_ _ z=>z) (aC 0 hN) aO (vy T.hw hr (aa 1) (aa 0)))))) (iS T.z_len (aa 2)))) (aa 0))))))))))
theorem lg(h:W.At "some_fitting" st_some_fitting)(T:Tx W)(k_all_fitting:iT W):gP W:=gJ ["sheet","fleet","rule","record","found"] 4 h λ_ _ _ _ _ _ _ hr hN=>(ao (bw 4 (bW (aM k_all_fitting hr (ae (aa 0) (ae (aa 1) (ae (aa 2) (ae (aa 3) ah)))))) hN) (ao (d8 (iQ (A8 (aa 4))) (aA pY) cy) (aA (aS (aa 4)))))
theorem mK(h:W.At "ship_counts" st_ship_counts)(T:Tx W):iP W:=gJ ["found","counts","hiding","ship"] 1 h λ_ _ _ _ _ _ _ hr hN=>(ao (Je 1 (HN T.hw) hN) (ao (d6 Sm rfl (aW (aa 0)) (aC 2 hN) (aA (d6 Sm rfl (kR (aa 2)) (aC 3 hN) (aA (Jm 1 T.hw hr (bg (EG T.hw hr (Ow 1) (aa 3) ar) ar) (aa 3)))))) (aA (IQ 1))))
theorem vw(h:W.At "lots_in" st_lots_in)(T:Tx W)(df:d9 W)(k_ship_counts:iP W)(iq:gT W)(bZ:dC W):oB W:=by
 obtain⟨v_ANSWERS,u_ANSWERS,kK,jm,kM⟩:=T.e_ANSWERS;exact RO ["found","record","cell","shot","answers","lots","hiding","struck"] 1 1 h λ_ _ _ _ _ _ _ _ _ hr hN=>(ek (LD 3 (Lv (Fh 1 Pd (lX (aM df hr (ae (aa 1) ah)) (dr (ae (aa 2) ah))))) hN) (Lb (ao (bw 4 (GE (wK (Nc:=["ship","cell","shot"]) (own:=["ship"]) (caps:=[2,3]) T.hw (aN 0) rfl (E' T.hw (aM k_ship_counts hr (ae (aa 0) ah))) rfl rfl (λ_ _ _ _ _ _=>have hN:=(by decide +kernel:List.Nodup (["ship","cell","shot"]:VS));(oR (oW hr) (λ_ _ z=>z) (aC 0 hN) aO (aa 0) (aM iq hr (ae (bW (dr (ae (bW (aM bZ hr (ae (aa 0) ah))) ah))) (ae (aa 1) (ae (aa 2) ah)))))))) hN) (Ea 5 T.hw (yP 5 (Nc:=["answer"]) (own:=["answer"]) (caps:=[]) (aN 0) rfl (kR (my kK jm kM)) rfl rfl (λ_ _ _ _ _ _=>have hN:=(by decide +kernel:List.Nodup (["answer"]:VS));(vK (λ_ _ z=>z) (aC 0 hN) aO (aa 0) (dr ah))) hN) (λL ks as=>Gj Sm rfl (aW (aa 0)) (aC 6 hN) (ek (vA (gZ 7 (gY (Nc:=["ship","answers"]) (own:=["ship"]) (caps:=[4]) (aN 0) rfl (kR (aa 6)) rfl rfl (λ_ _ _ _ _ _=>have hN:=(by decide +kernel:List.Nodup (["ship","answers"]:VS));(aB (λ_ _ z=>z) (aC 0 hN) (dR (λ_ _ z=>z) (Ak hr (vy T.hw hr (aa 1) (aa 0)) bL)) (vy T.hw hr (aa 1) (aa 0))))) hN)) (pM (HI 5 rfl (jG (A8 (aa 7)) (a6 (aa 7) ar) bL) (aa 6)))))))))
theorem rG(h:W.At "bodies_of" st_bodies_of)(T:Tx W)(bZ:dC W):k9 W:=gJ ["rows","columns","length","along","down"] 3 h λ_ _ _ _ _ _ _ hr hN=>(ao (gZ 3 (gY (Nc:=["row","column","columns","length"]) (own:=["row","column"]) (caps:=[1,2]) (aN 0) rfl (a5 T.z_range (aa 0)) rfl rfl (λ_ _ _ _ _ _=>have hN:=(by decide +kernel:List.Nodup (["row","column","columns","length"]:VS));(fy (λ_ _ z=>z) rfl (aC 0 hN) aO (a5 T.z_range (bg (cC (aa 2) (aa 3)) ar)) (aN 1) (aB (λ_ _ z=>z) (aC 1 hN) aO (aX (ae (aa 0) (ae (aa 1) (ae bL (ae (aa 3) ah))))))))) hN) (ao (gZ 4 (gY (Nc:=["row","column","columns","length"]) (own:=["row","column"]) (caps:=[1,2]) (aN 0) rfl (a5 T.z_range (bg (cC (aa 0) (aa 2)) ar)) rfl rfl (λ_ _ _ _ _ _=>have hN:=(by decide +kernel:List.Nodup (["row","column","columns","length"]:VS));(fy (λ_ _ z=>z) rfl (aC 0 hN) aO (a5 T.z_range (aa 2)) (aN 1) (aB (λ_ _ z=>z) (aC 1 hN) aO (aX (ae (aa 0) (ae (aa 1) (ae bL (ae (aa 3) ah))))))))) hN) (aA (aS (a8 (Nc:=["ship"]) (own:=["ship"]) (caps:=[]) (aN 0) rfl (aW (bW (lX (aa 3) (aa 4)))) rfl rfl (λ_ _ _ _ _ _=>have hN:=(by decide +kernel:List.Nodup (["ship"]:VS));(aB (λ_ _ z=>z) (aC 0 hN) aO (bW (aM bZ hr (ae (aa 0) ah))))))))))
theorem yZ(h:W.At "is_net" st_is_net)(T:Tx W)(fO:iA W)(k_bodies_of:k9 W):sN W:=gJ ["rows","columns","length","cells","taken"] 4 h λ_ _ _ _ _ _ _ hr hN=>(ao (d8 (iQ (eO (AI T.z_all rfl (a8 (Nc:=["cell","rows","columns"]) (own:=["cell"]) (caps:=[0,1]) (aN 0) rfl (aW (aa 3)) rfl rfl (λ_ _ _ _ _ _=>have hN:=(by decide +kernel:List.Nodup (["cell","rows","columns"]:VS));(aB (λ_ _ z=>z) (aC 0 hN) aO (aM fO hr (ae (aX (ae (aa 1) (ae (aa 2) ah))) (ae (aa 0) ah))))))))) (aA (aS lx)) cy) (ao (bw 4 (IB T.z_set rfl hr (aa 3)) hN) (ao (d8 (I9 (Jg T.z_len (aa 4)) (iS T.z_len (aa 3))) (aA (aS lx)) cy) (aA (aS (AI T.z_all rfl (a8 (Nc:=["body","taken"]) (own:=["body"]) (caps:=[4]) (aN 0) rfl (aW (bW (aM k_bodies_of hr (ae (aa 0) (ae (aa 1) (ae (aa 2) ah)))))) rfl rfl (λ_ _ _ _ _ _=>have hN:=(by decide +kernel:List.Nodup (["body","taken"]:VS));(aB (λ_ _ z=>z) (aC 0 hN) aO (KU T.z_any rfl (a8 (Nc:=["cell","taken"]) (own:=["cell"]) (caps:=[1]) (aN 0) rfl (aW (aa 0)) rfl rfl (λ_ _ _ _ _ _=>have hN:=(by decide +kernel:List.Nodup (["cell","taken"]:VS));(aB (λ_ _ z=>z) (aC 0 hN) aO (La hr (aa 0) (aa 1)))))))))))))))
def kr:V_:=gt 46
def tX:V_:=gt 48
def Nt:V_->VV
 | .ClassDef _ _ _ body _ _ _ _ _ _ _=>body
 | _=>[]
def gh:V_:=(Nt kr).getD 0 (.Pass ⟨0,0,0,0⟩)
def ez:V_:=(Nt kr).getD 2 (.Pass ⟨0,0,0,0⟩)
def jM:V_:=(Nt kr).getD 3 (.Pass ⟨0,0,0,0⟩)
def hJ:V_:=(Nt tX).getD 0 (.Pass ⟨0,0,0,0⟩)
theorem Jr{K:Fg}{dV kV doc pm bP ct:V0}{an od:VR}{dT:V8}{n:Nat}{t0:Tok}{sl:VJ}(hd:dV=.ref dT)(ld:K.lookup dT=some ⟨.type "tuple",od,.seq #[.str "sides" t0] n,sl⟩):Binds K (PySem.W.fnOf "__init__" "Search.__init__" (bO gh) (aP gh) (aq gh) dV kV doc pm an bP ct) ["self","sheet","fleet","rule"] []:=by
 subst hd;intro s us X hl;have CW:us.length=4:=by simpa using hl
 match us,CW with
 | [a,b,c,d],_=>exact BindsTo.of_defaults (T:=dT) (items:=#[.str "sides" t0]) (n:=n) rfl (X _ _ ld) rfl rfl rfl
theorem Ez{C:V8}(h:W.Mi C "Answerer" "Search.__init__" gh ["self","sheet","fleet","rule"])(na:∀n∈Cg++B7,dX W.K C n)(T:Tx W)(k_some_fitting:gP W):Bj W C:=
 Sa ["self","sheet","fleet","rule"] 3 h λ_ _ _ _ _ _ _ _ _ hr hN=>(G9 0 (aa 1) (na _ (.head _)) (G9 0 (aa 2) (na _ (.tail _ (.head _))) (G9 0 (aa 3) (na _ (.tail _ (.tail _ (.head _)))) (Lq 0 (dr ah) (na _ (.tail _ (.tail _ (.tail _ (.head _))))) (λ_=>Lq 0 (dr (ae (aM k_some_fitting hr (ae (aa 1) (ae (aa 2) (ae (aa 3) (ae (bW (dr ah)) ah))))) ah)) (na _ (.tail _ (.tail _ (.tail _ (.tail _ (.head _)))))) (λ_=>Mr))))))
theorem vY{C:V8}(h:W.Me C "lots_at" "Search.lots_at" ez)(T:Tx W)(k_refuse_shot:iO W)(k_lots_in:oB W):pv W C:=
 QW ["self","cell"] 1 h λ_ _ _ _ _ _ _ _ _ _ hr hN=>(ek (Kw (Jp 0 Oj (aM k_refuse_shot hr (ae (Gk (aa 0)) (ae (Gk (aa 0)) (ae (aa 1) ah)))))) (pM (K4 (AM 0 0 (k_lots_in _ (by decide)) hr (D2 0 1 (Gh ar)) (Cd (aa 1))))))
theorem Fz{C:V8}(h:W.Me C "note" "Search.note" jM)(T:Tx W):z0 W C:=
 QW ["self","cell","answer","found"] 3 h λ_ _ _ _ _ _ _ _ _ _ hr hN=>(ek (GA 0 0 (Cd (aX (ae (aa 1) (ae (aa 2) ah))))) (pM (GA 0 1 (Cd (aa 3)))))
theorem B9{C c P:V8}(h:W.MeC C "shoot" "Answerer.shoot" hJ c)(lm:Lam W "Answerer.shoot" c P)(T:Tx W)(k_lots_at:pv W C)(k_note:z0 W C):wy W C:=by
 obtain⟨v_ANSWERS,u_ANSWERS,kK,jm,kM⟩:=T.e_ANSWERS;exact Pa ["self","cell","lots","answer"] 1 h λ_ _ _ _ _ _ _ _ _ hr hN=>(ek (BE 2 (rj 0 (k_lots_at _ (by decide)) hr (ae (aa 1) ah)) hN) (ek (vA (bw 3 (Io (k:=1) (Nc:=["word","lots"]) (caps:=[2]) (hr.mono (by decide)) T.z_max rfl lm.t rfl lm.c (my kK jm kM) rfl rfl rfl (λ_ _ _ _ _ hr=>(iS T.z_len (Bb T.hw (aa 1) (aa 0))))) hN)) (ek (HK (rj 0 (k_note _ (by decide)) hr (ae (aa 1) (ae (aa 3) (ae (Bb T.hw (aa 2) (aa 3)) ah))))) (pM (vA (aS (aa 3)))))))
theorem iH{C:V8}(h:W.At "_law_water_right" st__law_water_right)(T:Tx W)(k_init:Bj W C)(k_shoot:wy W C)(uM:sN W):eB W:=
 gJ ["sheet","length","cells","answerer","k","word","net"] 3 h λ_ _ _ _ _ _ _ hr hN=>(Ib 3 (k_init 10 (by decide)) (hr.mono (by decide)) (ae (aa 0) (ae (aX (ae (aa 1) ah)) (ae bL ah))) (λx dx as=>(ek (Gj Sm rfl (a5 T.z_range (iS T.z_len (aa 2))) (aC 4 hN) (ek (BE 5 (rj 3 (k_shoot _ (by decide)) hr (ae (a6 (aa 2) (aa 4)) ah)) hN) (ek (vA (bw 6 (aM uM hr (ae (a6 (aa 0) ar) (ae (a6 (aa 0) ar) (ae (aa 1) (ae (bW (BG T.z_list (sD (aa 2) mH (mz (bg (aa 4) ar))))) ah))))) hN)) (ek (vA (d8 (LO (w_and (eO (aa 6)) (w_and (iE hr (aa 5) bL) (vZ (iQ (eO (aM uM hr (ae (a6 (aa 0) ar) (ae (a6 (aa 0) ar) (ae (aa 1) (ae (bW (BG T.z_list (sD (aa 2) mH (mz (aa 4))))) ah))))))))))) (aA (aS lx)) cy)) (pM (vA (d8 (Ak hr (aa 5) bL) (aA (aS lx)) cy))))))) (pM (vA (aS lx))))) hN)
theorem Hg{f:V8}{fd:V6}(F:xR W.K "law" "law" st_law f fd)(T:Tx W)(k__law_drawn:jC W)(k_net_of:tG W)(k__law_sheet_cells:ei W)(k__law_runs:kP W)(k__law_sets:kN W)(jQ:jr W)(k__law_water_right:eB W):dM W.P W.w W.K W.mg W.base jk 13 f fd ["script"] (Do W.K 1 .cl m_law):=R9 ["script","cell","rows","columns","length","sheet","cells","ships","every","runs","some","order"] 1 F λ_ _ _ _ _ _ _ hr hN=>(ao (d6 Sm rfl (aW (bW (lX (dr (ae ar ah)) (sD (aa 0) mH (mz ar))))) (aC 1 hN) (ao (Mb rfl (bW (aM k__law_drawn hr (ae (aa 1) (ae (bW (dr (ae ar (ae ar (ae ar ah))))) ah)))) (aH 2 hN (aH 3 hN (aH 4 hN cq)))) (ao (bw 5 (aX (ae (bg ar (aa 2)) (ae (bg ar (aa 3)) ah))) hN) (ao (bw 4 (bg ar (aa 4)) hN) (ao (vh rfl (aM k_net_of hr (ae (a6 (aa 5) ar) (ae (a6 (aa 5) ar) (ae (aa 4) ah)))) (aH 6 hN (aH 7 hN cq))) (ao (bw 8 (bW (aM k__law_sheet_cells hr (ae (aa 5) ah))) hN) (ao (bw 9 (bW (aM k__law_runs hr (ae (a6 (aa 5) ar) (ae (a6 (aa 5) ar) (ae (aa 4) ah))))) hN) (ao (d8 (LO (w_and (Oz (iS T.z_len (aa 6)) ar) (vZ (I9 (iS T.z_len (aa 6)) ar)))) (aA (d6 Sm rfl (aW (aM k__law_sets hr (ae (aa 8) (ae (cC (iS T.z_len (aa 6)) ar) ah)))) (aC 10 hN) (aA (d8 (iE hr (a8 (Nc:=["run","some"]) (own:=["run"]) (caps:=[10]) (aN 0) rfl (aW (aa 9)) rfl rfl (λ_ _ _ _ _ _=>have hN:=(by decide +kernel:List.Nodup (["run","some"]:VS));(aB (λ_ _ z=>z) (aC 0 hN) (dR (λ_ _ z=>z) (iE hr (a8 (Nc:=["spot","some"]) (own:=["spot"]) (caps:=[1]) (aN 0) rfl (aW (aa 0)) rfl rfl (λ_ _ _ _ _ _=>have hN:=(by decide +kernel:List.Nodup (["spot","some"]:VS));(aB (λ_ _ z=>z) (aC 0 hN) (dR (λ_ _ z=>z) (BD hr (aa 0) (aa 1))) (aa 0)))) (dr ah))) (aa 0)))) (dr ah)) (aA (aS lx)) cy)))) cy) (aA (d8 (Ak hr (aa 9) (dr ah)) (ao (bw 11 (bW (lX (aa 6) (a8 (Nc:=["spot","cells"]) (own:=["spot"]) (caps:=[6]) (aN 0) rfl (aW (bW (aM jQ hr (ae (aa 1) (ae (aa 8) ah))))) rfl rfl (λ_ _ _ _ _ _=>have hN:=(by decide +kernel:List.Nodup (["spot","cells"]:VS));(aB (λ_ _ z=>z) (aC 0 hN) (dR (λ_ _ z=>z) (Gp hr (aa 0) (aa 1))) (aa 0)))))) hN) (aA (d6 Sm rfl (kR (aX (ae (aa 11) (ae (bW (aM jQ hr (ae (aa 1) (ae (aa 8) ah)))) ah)))) (aC 10 hN) (aA (d8 (iQ (eO (aM k__law_water_right hr (ae (aa 5) (ae (aa 4) (ae (aa 10) ah)))))) (aA (aS lx)) cy))))) cy)))))))))) (aA (aS lx)))
end
end K25
namespace K25
open PySem PySem.Spec PyProof.Rows L2 Mi
open PySem.W (nsIn findIn keepIn codeIn mg_of mg_none_of)
theorem EJ{K:Mi.Fg}{x m:Str}{C f c P:V8}{oc occ:V0}{od odc:VR}{fd:V6}{vs:Array V0}{sl slc:VJ}(a:nsIn K mainGlobals x=some (some (.ref C)))(b:findIn K (.ref C) m=some (some (.ref f)))(l:K.lookup f=some ⟨oc,od,.func fd,sl⟩)(e:fd.code=.ref c)(k:K.lookup c=some ⟨occ,odc,.fields vs,slc⟩)(p:vs[11]?=some (.ref P)):L2.vS K x m=some (c,P):=by
 unfold L2.vS;rw[a];dsimp only;rw[b];dsimp only;unfold L2.Lf;rw[l];dsimp only;rw[e];dsimp only;rw[k];dsimp only;rw[p]
theorem all_mk{l:PySem.W.OpenLaw}{w:V5}{K:VZ}{h:V4}{mg:VL}{fa:V8}(X:K.In h)(G:h.Ns mainGlobals mg)(RB:mg "law"=some (.ref fa))
  {f0 f1 f2 f3 f4 f5 f6 f7 f8 f9 f10 f11 f12 f13 f14 f15 f16 f17 f18 f19 f20 f21 f22 f23 f24 f25 f26 f27 f28 f29 f30 f31 f32 f33 f34 f35 f36 f37 f38:V8}
  (h0:eJ K "_law_stir" st__law_stir f0)
  (h1:eJ K "_law_drawn" st__law_drawn f1)
  (h2:eJ K "needs_ring" st_needs_ring f2)
  (h3:eJ K "lot_of" st_lot_of f3)
  (h4:eJ K "ring_ships" st_ring_ships f4)
  (h5:eJ K "apart_ships" st_apart_ships f5)
  (h6:eJ K "all_cells" st_all_cells f6)
  (h7:eJ K "net_cells" st_net_cells f7)
  (h8:eJ K "net_of" st_net_of f8)
  (h9:eJ K "_law_sheet_cells" st__law_sheet_cells f9)
  (Nl:eJ K "_law_runs" st__law_runs f10)
  (Ku:eJ K "_law_sets" st__law_sets f11)
  (Nm:eJ K "_law_order" st__law_order f12)
  (Nn:eJ K "is_tuple_of" st_is_tuple_of f13)
  (Np:eJ K "is_whole" st_is_whole f14)
  (P1:eJ K "is_cell" st_is_cell f15)
  (P3:eJ K "shot_cells" st_shot_cells f16)
  (P4:eJ K "refuse_shot" st_refuse_shot f17)
  (P5:eJ K "is_size" st_is_size f18)
  (P6:eJ K "is_ship" st_is_ship f19)
  (Og:eJ K "ships_of" st_ships_of f20)
  (P7:eJ K "cells_of" st_cells_of f21)
  (P8:eJ K "answer_to" st_answer_to f22)
  (P9:eJ K "answers_of" st_answers_of f23)
  (Qb:eJ K "fits" st_fits f24)
  (Qc:eJ K "ship_fits" st_ship_fits f25)
  (Qd:eJ K "rows_between" st_rows_between f26)
  (Qe:eJ K "columns_between" st_columns_between f27)
  (Qf:eJ K "keep" st_keep f28)
  (Qg:eJ K "may_follow" st_may_follow f29)
  (Qh:eJ K "hidings_among" st_hidings_among f30)
  (Qi:eJ K "all_fitting" st_all_fitting f31)
  (Qj:eJ K "some_fitting" st_some_fitting f32)
  (Qk:eJ K "ship_counts" st_ship_counts f33)
  (Ql:eJ K "lots_in" st_lots_in f34)
  (Qm:eJ K "bodies_of" st_bodies_of f35)
  (Qn:eJ K "is_net" st_is_net f36)
  (Qo:eJ K "_law_water_right" st__law_water_right f37)
  (Qp:eJ K "law" st_law f38)
  (z_all:nsIn K mainGlobals "all"=some none)
  (z_any:nsIn K mainGlobals "any"=some none)
  (z_bool:nsIn K mainGlobals "bool"=some none)
  (z_enumerate:nsIn K mainGlobals "enumerate"=some none)
  (z_int:nsIn K mainGlobals "int"=some none)
  (z_isinstance:nsIn K mainGlobals "isinstance"=some none)
  (z_len:nsIn K mainGlobals "len"=some none)
  (z_list:nsIn K mainGlobals "list"=some none)
  (z_max:nsIn K mainGlobals "max"=some none)
  (z_min:nsIn K mainGlobals "min"=some none)
  (z_range:nsIn K mainGlobals "range"=some none)
  (z_set:nsIn K mainGlobals "set"=some none)
  (z_sorted:nsIn K mainGlobals "sorted"=some none)
  (z_sum:nsIn K mainGlobals "sum"=some none)
  (z_tuple:nsIn K mainGlobals "tuple"=some none)
  {gp:V8} {od_ANSWERS:VR} {n_ANSWERS:Nat} {sl_ANSWERS:VJ} {t0_ANSWERS t1_ANSWERS t2_ANSWERS:Tok} (a_ANSWERS:nsIn K mainGlobals "ANSWERS"=some (some (.ref gp))) (l_ANSWERS:K.lookup gp=some ⟨.type "tuple",od_ANSWERS,.seq #[(.str "water" t0_ANSWERS),(.str "hit" t1_ANSWERS),(.str "sunk" t2_ANSWERS)] n_ANSWERS,sl_ANSWERS⟩)
  {t_GREATEST:Tok} (a_GREATEST:nsIn K mainGlobals "GREATEST"=some (some (.int 8 t_GREATEST)))
  {lR:V8} {od_WAYS:VR} {n_WAYS:Nat} {sl_WAYS:VJ} {t0_WAYS t1_WAYS:Tok} (a_WAYS:nsIn K mainGlobals "WAYS"=some (some (.ref lR))) (l_WAYS:K.lookup lR=some ⟨.type "tuple",od_WAYS,.seq #[(.str "along" t0_WAYS),(.str "down" t1_WAYS)] n_WAYS,sl_WAYS⟩)
  {C_A Nr Qq dT:V8} {odT:VR} {nT:Nat} {slT:VJ} {tT:Tok}
  {FY:V8} {oc_in kV_in dc_in pm_in cd_in ct_in:V0} {od_in an_in:VR} {sl_in:VJ}
  {Dg:V8} {oc_la kV_la dc_la pm_la cd_la ct_la:V0} {od_la an_la:VR} {sl_la:VJ}
  {Dh:V8} {oc_no kV_no dc_no pm_no cd_no ct_no:V0} {od_no an_no:VR} {sl_no:VJ}
  {Di:V8} {oc_sh kV_sh dc_sh pm_sh ct_sh:V0} {od_sh an_sh:VR} {sl_sh:VJ}
  (ca:nsIn K mainGlobals "Answerer"=some (some (.ref C_A)))
  (Qr:PySem.W.makesIn K C_A=true)
  (cin:findIn K (.ref C_A) "__init__"=some (some (.ref FY)))
  (Qs:PySem.W.isFn K (.ref FY)=true)
  (Qt:keepIn K (.ref C_A)=true)
  (Qu:PySem.W.plainGet K C_A Str.empty=true)
  (Qw:PySem.W.hasDictIn K C_A=true)
  (Qx:PySem.W.plainOver K C_A=true)
  (Qy:findIn K (.ref C_A) "__setattr__"=some (some (.builtin "object.__setattr__")))
  (JV:findIn K (.ref C_A) "lots_at"=some (some (.ref Dg)))
  (Dj:PySem.W.isFn K (.ref Dg)=true)
  (xV:keepIn K (.ref Dg)=true)
  (JW:findIn K (.ref C_A) "note"=some (some (.ref Dh)))
  (Dk:PySem.W.isFn K (.ref Dh)=true)
  (xW:keepIn K (.ref Dh)=true)
  (JX:findIn K (.ref C_A) "shoot"=some (some (.ref Di)))
  (Dl:PySem.W.isFn K (.ref Di)=true)
  (xX:keepIn K (.ref Di)=true)
  (Qz:findIn K (.ref C_A) "sheet"=some none)
  (QA:findIn K (.ref C_A) "fleet"=some none)
  (QC:findIn K (.ref C_A) "rule"=some none)
  (QD:findIn K (.ref C_A) "shots"=some none)
  (QE:findIn K (.ref C_A) "layers"=some none)
  (JY:K.lookup FY=some ⟨oc_in,od_in,.func (PySem.W.fnOf "__init__" "Search.__init__" (bO gh) (aP gh) (aq gh) (.ref dT) kV_in dc_in pm_in an_in cd_in ct_in),sl_in⟩)
  (JZ:codeIn K cd_in "Search.__init__"=true)
  (J5:K.lookup Dg=some ⟨oc_la,od_la,.func (PySem.W.fnOf "lots_at" "Search.lots_at" (bO ez) (aP ez) (aq ez) .none kV_la dc_la pm_la an_la cd_la ct_la),sl_la⟩)
  (J6:codeIn K cd_la "Search.lots_at"=true)
  (J7:K.lookup Dh=some ⟨oc_no,od_no,.func (PySem.W.fnOf "note" "Search.note" (bO jM) (aP jM) (aq jM) .none kV_no dc_no pm_no an_no cd_no ct_no),sl_no⟩)
  (J8:codeIn K cd_no "Search.note"=true)
  (J9:K.lookup Di=some ⟨oc_sh,od_sh,.func (PySem.W.fnOf "shoot" "Answerer.shoot" (bO hJ) (aP hJ) (aq hJ) .none kV_sh dc_sh pm_sh an_sh (.ref Nr) ct_sh),sl_sh⟩)
  (Ka:codeIn K (.ref Nr) "Answerer.shoot"=true)
  (ld:K.lookup dT=some ⟨.type "tuple",odT,.seq #[.str "sides" tT] nT,slT⟩)
  (QF:L2.vS K "Answerer" "shoot"=some (Nr,Qq))
  (QG:PySem.W.codeHdIn K Nr Qq=true)
  (QH:PySem.W.tabIn K "best_in"=none)
  (QJ:PySem.W.tabIn K "best_shown"=none)
  : ∃fd:V6,(∀(s:V1)(v:V0),BindsTo s fd ⟨[v],[]⟩ [("script",v)])/\∀base:V4,K.In base->base.Ns mainGlobals mg->dM l.prog w K mg base jk 13 fa fd ["script"] (Do K 1 .cl (@m_law ⟨hashStr w⟩)):=by
 letI:Th:=⟨hashStr w⟩;obtain⟨oc,kV,dc,pm,cd,ct,od,an,sl,aL,lL,cL,kL⟩:=Qp;have e:=RB.symm.trans (mg_of X G aL);cases e;refine⟨PySem.W.fnOf "law" "law" (bO st_law) (aP st_law) (aq st_law) .none kV dc pm an cd ct,λs v=>.of_eq rfl,λbase _ _=>?_⟩
 let W:Wd:=⟨l.prog,w,K,mg,base⟩
 have a {x st f} (A:eJ K x st f):W.At x st:=A.at X G;have T:Tx W:=⟨S4 X G z_all,S4 X G z_any,S4 X G z_bool,S4 X G z_enumerate,S4 X G z_int,S4 X G z_isinstance,S4 X G z_len,S4 X G z_list,S4 X G z_max,S4 X G z_min,S4 X G z_range,S4 X G z_set,S4 X G z_sorted,S4 X G z_sum,S4 X G z_tuple,⟨.ref gp,_,mg_of X G a_ANSWERS,rfl,λ_=>⟨gp,[(.str "water"),(.str "hit"),(.str "sunk")],rfl,.inr ⟨_,_,_,l_ANSWERS,rfl,rfl,(show(3:Nat)<=sizeLine by decide),(.cons ⟨_,rfl⟩ (.cons ⟨_,rfl⟩ (.cons ⟨_,rfl⟩ .nil)))⟩,⟨_,_,rfl,⟨rfl,by decide +kernel⟩,⟨_,_,rfl,⟨rfl,by decide +kernel⟩,⟨_,_,rfl,⟨rfl,by decide +kernel⟩,rfl⟩⟩⟩⟩⟩,⟨(.int 8),_,mg_of X G a_GREATEST,⟨_,rfl⟩,λ_=>rfl⟩,⟨.ref lR,_,mg_of X G a_WAYS,rfl,λ_=>⟨lR,[(.str "along"),(.str "down")],rfl,.inr ⟨_,_,_,l_WAYS,rfl,rfl,(show(2:Nat)<=sizeLine by decide),(.cons ⟨_,rfl⟩ (.cons ⟨_,rfl⟩ .nil))⟩,⟨_,_,rfl,⟨rfl,by decide +kernel⟩,⟨_,_,rfl,⟨rfl,by decide +kernel⟩,rfl⟩⟩⟩⟩,rfl⟩;have C0:=pU (a h0) T;have C1:=nV (a h1) T C0;have C2:=nX (a h2) T;have C3:=yS (a h3) T;have C4:=n4 (a h4) T C3;have C5:=mI (a h5) T C2 C4 C3;have C6:=qG (a h6) T;have C7:=qe (a h7) T C6;have C8:=yn (a h8) T C5 C7;have C9:=iI (a h9) T;have C10:=pQ (a Nl) T;have C11:=pT (a Ku) T;have C12:=nK (a Nm) T C0;have C13:=mG (a Nn) T;have C14:=tW (a Np) T;have C15:=vV (a P1) T C13 C14;have C16:=n5 (a P3) T;have C17:=m5 (a P4) T C15 C16;have C18:=wa (a P5) T C14;have C19:=vC (a P6) T C13 C18 C15;have C20:=tf (a Og) T C6 C19;have C21:=ur (a P7) T;have C22:=qi (a P8) T;have C23:=n8 (a P9) T C21 C22;have C24:=Fk (a Qb) T C23 C16;have C25:=qj (a Qc) T C21 C24;have C26:=ll (a Qd) T;have C27:=jd (a Qe) T;have C28:=E5 (a Qf) T C26 C27;have C29:=nJ (a Qg) T C28;have C30:=j6 (a Qh) T C29;have C31:=m6 (a Qi) T C20 C25 C21 C30;have C32:=lg (a Qj) T C31;have C33:=mK (a Qk) T;have C34:=vw (a Ql) T C16 C33 C22 C21;have C35:=rG (a Qm) T C21;have C36:=yZ (a Qn) T C15 C35;have cA:zR K C_A:=⟨Qu,Qw,Qx,Qy⟩;have naA:∀n∈Cg++B7,dX K C_A n:=λn hn=>by
  rcases o_.mp hn with z | hn
  .rw[z];exact Qz
  rcases o_.mp hn with z | hn
  .rw[z];exact QA
  rcases o_.mp hn with z | hn
  .rw[z];exact QC
  rcases o_.mp hn with z | hn
  .rw[z];exact QD
  .rw[k_.mp hn];exact QE
 have CI:=Ez (W:=W) (C:=C_A) ⟨mg_of X G ca,cA,FY,_,.ref dT,⟨⟨_,_,_,_,_,_,_,_,_,rfl,JY,JZ⟩⟩,⟨Qr,cin,Qs,Qt⟩,Jr rfl ld⟩ naA T C32;have CL:=vY (W:=W) (C:=C_A) ⟨Dg,_,l' (st:=ez) J5 J6 xV,⟨JV,Dj,xV⟩⟩ T C17 C34;have CN:=Fz (W:=W) (C:=C_A) ⟨Dh,_,l' (st:=jM) J7 J8 xW,⟨JW,Dk,xW⟩⟩ T;have CS:=B9 (W:=W) (C:=C_A) (c:=Nr) (P:=Qq) ⟨Di,_,l' (st:=hJ) J9 Ka xX,rfl,⟨JX,Dl,xX⟩⟩ ⟨RU QH QJ QF,QG⟩ T CL CN;have C37:=iH (W:=W) (C:=C_A) (a Qo) T CI CS C36;exact Hg (W:=W) (l' (st:=st_law) lL cL kL) T C1 C8 C9 C10 C11 C12 C37
theorem Ar{l:PySem.W.OpenLaw}{q:V2}{loose:VS}{XP:VL->V4->Prop}{YP:V5->V4->Prop}{d:DefRec}{K:Params->VZ}(hn:l.most=some 63)(MO:d.params.defaults=[])
  (hY:∀(w:V5)(h:V4),YP w h->(K w.params).In h) (hL:∀(w:V5)(h:V4),YP w h->∀P qq,tq (K w.params) P=some qq->(∃c,PySem.W.CodeHd h c P)/\h.get? P=some (PySem.W.tabObj #[])/\(K w.params).lookup P=none)
  (F:∀(w:V5)(mg:VL)(fa:V8)(h:V4),(K w.params).In h->h.Ns mainGlobals mg->mg d.name=some (.ref fa)->
   ∃fd:V6,(∀(s:V1)(u:V0),BindsTo s fd ⟨[u],[]⟩ [("script",u)])/\∀base:V4,(K w.params).In base->base.Ns mainGlobals mg->dM l.prog w (K w.params) mg base jk 13 fa fd ["script"] (Do (K w.params) 1 .cl (@m_law ⟨hashStr w⟩))) :
  PySem.W.WalkO q loose XP YP l.row.toRowW d [] (λf vs=>PySem.call f vs):=
 L2.z9 (n:=63) (k:=13) (x:="script") (CX:=λ_=>jk) (sp:=λw=>Do (K w.params) 1 .cl (@m_law ⟨hashStr w⟩)) hn (by decide) MO ⟨rfl,by decide,by decide⟩ hY hL F
  (λw H a ns hl _ hS=>⟨H,[.lst (ns.map .int)],.bl true,rfl,λ_ _ z=>z,⟨_,_,rfl,⟨a,_,rfl,hS,ai.ints ns⟩,rfl⟩,@law_true ⟨hashStr w⟩ ns hl,λv Z' H' _ g=>g⟩) λ_ _ _ _ _ z=>z
end K25
structure PySem.W.Fast:Prop where(tw17282419870231741697 tw8042104685960261880 tw6050767401342892990 tw8637336514516968284 tw69966763728319644 tw9307602886044852124 tw15905224521306102259 tw9183523603525524173 tw15082677915005348568 tw12413968412247296842 tw11286951000165725447 tw2012384880435564050 tw14429044471589887859 tw7042988430281166509 tw7369323169862760230 tw2643642794587899595 tw4890784629756143722 tw4827791373489272593 tw7760350815009809922 tw9502388601980155199 tw6626476032605590675 tw11029365224811535102 tw16163536250908198809 tw1129928680055337998 tw3717940346789216807 tw14681547867514118142 tw14482148315497902757 tw18275296047724175760 tw3971234261046093405 tw3272559741750949349 tw3093114205076021773 tw3265956108726568247 tw12883768885085235678 tw345924154915583908 tw17380069791804170560 tw4907356100297618083 tw12603794210724949513 tw16269730919569922052 tw12311582707902892614 tw17459905204946449712 tw12512897091518519250 tw14123640826197996333 tw3942420222233762691 tw12444227829717341268 tw11972754571283674616 tw1876751548980218755 tw7978281485279143585 tw419227231542421348 tw2068572215628594318 tw8560474131174225127 tw13116479926504526855 tw5511445424391114160 tw11894888715429349239 tw17592858045123320347 tw13207327754291622692 tw346642697230985247 tw10649628446984390246 tw16030143498101602617 tw8387066731505955697 tw2705169506313756554 tw11852302209908813358 tw12697138141925521682 tw8602210972916787015 tw6819701801281846392 tw16053645945056708167 tw17297545848475299202 tw17829233651440558075 tw5241900800168229604 tw5245088959804905585 tw8693687948909723444 tw4375369065721262224 tw16259439144714345079 tw13961582376293352043 tw15710880110185656811 tw15747866663808240443 tw7870810609497707169 tw3563867959458511321 tw838985545717287422 tw150457562085632527 tw7789290660612915360 tw13058100612895032531 tw7191925456031659009 tw16743981020797490569 tw13577043125560179717 tw9038019357153457148 tw8205314245446418724 tw10827502326613480000 tw11945305733669615532 tw15664459351866248369 tw14970986147085284350 tw1845801696260814368 tw13877996810260256843 tw4383447829868925382 tw6607200078030650644 tw1099811762965248970 tw9869430444068387453 tw10953778289948133704 tw7479193527208497697 tw4720849778821440083 tw6405471509999220495 tw17695365047450408327 tw12104199203417189876 tw2805850226118264206 tw742637269709487303 tw586970150966773160 tw7789773341957459949 tw15806711671849324994 tw10897655529783353687 tw18061864376981544429 tw1002920317475066342 tw13506790646833741966 tw1845656475104804209 tw7486202523055057773 tw18121832085372683219 tw10865446067453857757 tw3953242546579938121 tw4944653761332901300 tw8192904222591326104 tw15301609237535611993 tw5665898260032856590 tw4689593021195755681 tw2982333436820780993 tw17420526626287537409 tw9685427709268898352 tw4549291441585681537 tw9365679929684783612 tw10479377294518954666 tw3089868620241884854 tw6626533354468825441 tw2478498769927194604 tw16267022979422338810 tw6072452577000108893 tw17729239046592682369 tw10566733917222349761 tw2958340377933630362 tw16142349688435994483 tw15189874705570039880 tw8875554131765681801 tw16250811668394847724 tw1485972844908376143 tw12541548924680813039 tw8475124308569981851 tw1517510093563384656 tw11372171109809006088 tw17913231142317787179 tw13422702074107457037 tw8296399828700318408 tw14847351434207849407 tw5248094979416996920 tw943716409599469509 tw18401303955771938722 tw16190154600165631447 tw6102609304217074799 tw15109010626515504562 tw1666940625081120046 tw8128451994807733467 tw2828357561519660112 tw8250758157280805163 tw9518385331883695239 tw7506337496824527740 tw13580617098409664605 tw12163695036729376591 tw18396674787318332071 tw7632536070335163112 tw17379783897393084608 tw1305069428699860707 tw7317702855201707023 tw5332914866797778711 tw6184322999158453584 tw7009448751123387482 tw16289733399989838865 tw17463509966126092615 tw3083366898482987650 tw4981288474803867672 tw4881109253584157803 tw4522819991330526000 tw15638345334306121863 tw12924812349487109954 tw771451394312324856 tw18115863879101122016 tw17058068027654018285 tw16923064050039212471 tw777972432201684040 tw15341839468261653488 tw9624328987046081333 tw6400983867975318195 tw10310831142326709447 tw17346710798031058595 tw14162331502702251078 tw2413278542952141056 tw10748541137793188036 tw4516084764785936501 tw16793758165570280204 tw11033036427975072852 tw5915257382213827567 tw15713501560346887566 tw3648336949089365628 tw15027767028111612419 tw3145591609061255982 tw17713612004724162144 tw5472445281796435500 tw13857497864378042153 tw18430575374354061959 tw3415295461175076371 tw11744480456786370824 tw15102616297059720169 tw745320427765695618 tw8803389448129387039 tw16504510481913444603 tw1701422410428378052 tw16588162109440013942 tw14201316454727844450 tw14826667998248425660 tw2798285977251347131 tw2045799777947489004 tw2580099619095179423 tw3152938642462619767 tw4265970961086790953 tw2682369173154360192 tw11175515964174616832 tw2596893808913704738 tw13920769988424056771 tw8868198881249793122 tw4980569509251633785 tw1615988230257720618 tw10884044832633130012 tw2899205498950309918 tw459942813519511704 tw18363678115513043905 tw12446643742606805273 tw14257956930731417049 tw10888579664639414404 tw11494165059299834387 tw14911656660054303147 tw6906292445664931330 tw696953102335824751 tw3247759605389177752 tw15266012685361651934 tw13745779359510441887 tw12243224376985109404 tw16248905653646730562 tw10231630917383694661 tw14996668991290973236 tw4634266612042784885 tw13111062800159150468 tw191440727093958267 tw9400759830463316504 tw4733378180248095103 tw5368952127057371016 tw12550963531928143872 tw7156660818263810928 tw8963851335913953553 tw6764363208634632658 tw15296067096935705032 tw10566816205413740615 tw13335344930483066612 tw842441913270662518 tw1516063035132752616 tw17872019007980993389 tw31391950116241675 tw4737903785908544385 tw10234775094992693500 tw14735304854052524806 tw10612624539179916039 tw7547754832014056186 tw438343294015864833 tw2896872681475045179 tw7436124979058449682 tw1425689080292495614 tw9978561861964178114 tw6399881349400155153 tw1704578288689693431 tw8610636565061844694 tw12625533823900693971 tw4593808955116868117 tw12257278881804872706 tw6737716424794879431 tw14807227709931879552 tw17173542302590499227 tw11522552533980685185 tw7557794149311252003 tw7494428403568478619 tw4301371723266233562 tw8979105393169154096 tw17518394894238536801 tw8508069051881109030 tw10386402746810645907 tw9553938793486546360 tw8196772602825839625 tw5698661228331439018 tw16671645392530061593 tw6733736148644344048 tw17197224852685370408 tw687310969060650071 tw1000153005031264129 tw8674516338079119361 tw6531536222525106905 tw17317579047470463338 tw5587422011336639180 tw13964112539898139361 tw4446378463040225993 tw6533124174289799878 tw1685174862640759009 tw6919840754357053228 tw6897778413942745038 tw8254141408617778719 tw1013295100285974020 tw17012175913185192948 tw10168084795999287993 tw445535821568938079 tw7348322865610828933 tw11945364494760460371 tw17150773858663463052 tw188835667822468505 tw15541956380043533759 tw6592428161707181573 tw17518497133871112796 tw9257147193684658879 tw11991225236203722354 tw11708257812022196864 tw3301299841277287861 tw17447048560011309107 tw2638823218870205089 tw4803906981823653021 tw18414226863445151157 tw9297593485466781789 tw12330931811206666202 tw10917678873519968249 tw7502151517837751427 tw12814423148814051639 tw13501077104978810585 tw16066638416111407908 tw13254561706540952634 tw15910227778111311443 tw5467675389538288566 tw16325701529052084615 tw74475968052735398 tw15569938235225996049 tw9115158566665676403 tw245422359008799287 tw5741836382466174514 tw3889695409000989089 tw5114949804025890150 tw2218851001022353381 tw13129562363719521900 tw11456087174797753603 tw769146315360269940 tw7538313576284045820 tw9731313750212909126 tw11344500370051013584 tw12127481249218702027 tw7561750903864424801 tw1946040851154560982 tw14926358312677541632 tw16459347604690416327 tw4649014990788373517 tw9861962190943722720 tw15213935511088372396 tw15055407542388319450 tw15775669053981592684 tw12466289052642976352 tw7873107555823669543 tw12986548745669350353 tw17487975169295458142 tw9985188595611036332 tw336597560036535604 tw1187320747148955074 tw1625039359348233570 tw5933523414249074172 tw18421797026695313312 tw6011422219633757538 tw11900430315362426470 tw9401480645544371286 tw2938910968800054660 tw5220968859494372635 tw1942216963840042869 tw11487857701380514547 tw6576420557891044902 tw14589579226745555342 tw2701968361244944404 tw5152159149677049214 tw10515799599427917241 tw18255678965951440233 tw667776190962574258 tw8829133604098263586 tw9780407210286710574 tw433790008364579128 tw9472165613472184173 tw8220650929974087046 tw13637016184613635176 tw12747384321273450371 tw1243158075699999908 tw13538896913252268856 tw1971135261531046623 tw11041909600080049890 tw15261742311490274646 tw16239282404718102989 tw13142744855965793723 tw2567316240964637165 tw13448822073568181837 tw8105740678295004698 tw12842300445671485153 tw12082321188843890924 tw3577136989241272546 tw7773090665031178126:True)
open PySem PySem.W PyProof.Rows
local macro_rules | `(tactic| walk_at "tm") => `(tactic| (refine' K25.EJ ?a ?f ?b ?c ?d ?e; (case a => k_is); (case f => k_is); (case b => k_is); (case c => rfl); (case d => k_is); (case e => rfl)))
local macro_rules | `(tactic| walk_at "at") => `(tactic| (refine' Mi.KD ?a ?l ?c ?k; (case a => k_is); (case l => k_is); (case c => k_is); (case k => k_is)))
set_option maxRecDepth 100000 in
set_option maxHeartbeats 0 in
theorem PySem.Challenge.cw_fleethide_k25_whole_none_has_fewer_cells_holds : PySem.Challenge.rw_fleethide_k25_whole_none_has_fewer_cells.Holds := by
  w_on
  o_law
  k_head
  (case hw=>w_witness2)
  k_fill
  refine K25.Ar (l:=PySem.Challenge.rw_fleethide_k25_whole_none_has_fewer_cells) rfl rfl (fun w h Y=>PySem.W.km_in_of Y) ?L ?F
  case L=>
    intro w h Y
    refine' L2.KW (PySem.W.km_in_of Y) (.inl ?n) (.inl ?a) (.inl ?b) (.inr ⟨_,_,?c,?d,?e⟩)
    (case n=>kernel_rfl)
    (case a=>(exact Mi.qx (by k_is)))
    (case b=>(exact Mi.qx (by k_is)))
    (case c=>walk_at "tm")
    (case d=>kernel_rfl)
    (case e=>exact PySem.W.km_tabs_of Y _ (.head _))
  case F=>
    intro w mg fa h KX G hmg
    refine' K25.all_mk KX G hmg ?h0 ?h1 ?h2 ?h3 ?h4 ?h5 ?h6 ?h7 ?h8 ?h9 ?Nl ?Ku ?Nm ?Nn ?Np ?P1 ?P3 ?P4 ?P5 ?P6 ?Og ?P7 ?P8 ?P9 ?Qb ?Qc ?Qd ?Qe ?Qf ?Qg ?Qh ?Qi ?Qj ?Qk ?Ql ?Qm ?Qn ?Qo ?Qp ?z_all ?z_any ?z_bool ?z_enumerate ?z_int ?z_isinstance ?z_len ?z_list ?z_max ?z_min ?z_range ?z_set ?z_sorted ?z_sum ?z_tuple ?ga_ANSWERS ?gl_ANSWERS ?ga_GREATEST ?ga_WAYS ?gl_WAYS ?ca ?Qr ?cin ?Qs ?Qt ?Qu ?Qw ?Qx ?Qy ?JV ?Dj ?xV ?JW ?Dk ?xW ?JX ?Dl ?xX ?Qz ?QA ?QC ?QD ?QE ?JY ?JZ ?J5 ?J6 ?J7 ?J8 ?J9 ?Ka ?ld ?QF ?QG ?QH ?QJ
    (case h0=>walk_at "at")
    (case h1=>walk_at "at")
    (case h2=>walk_at "at")
    (case h3=>walk_at "at")
    (case h4=>walk_at "at")
    (case h5=>walk_at "at")
    (case h6=>walk_at "at")
    (case h7=>walk_at "at")
    (case h8=>walk_at "at")
    (case h9=>walk_at "at")
    (case Nl=>walk_at "at")
    (case Ku=>walk_at "at")
    (case Nm=>walk_at "at")
    (case Nn=>walk_at "at")
    (case Np=>walk_at "at")
    (case P1=>walk_at "at")
    (case P3=>walk_at "at")
    (case P4=>walk_at "at")
    (case P5=>walk_at "at")
    (case P6=>walk_at "at")
    (case Og=>walk_at "at")
    (case P7=>walk_at "at")
    (case P8=>walk_at "at")
    (case P9=>walk_at "at")
    (case Qb=>walk_at "at")
    (case Qc=>walk_at "at")
    (case Qd=>walk_at "at")
    (case Qe=>walk_at "at")
    (case Qf=>walk_at "at")
    (case Qg=>walk_at "at")
    (case Qh=>walk_at "at")
    (case Qi=>walk_at "at")
    (case Qj=>walk_at "at")
    (case Qk=>walk_at "at")
    (case Ql=>walk_at "at")
    (case Qm=>walk_at "at")
    (case Qn=>walk_at "at")
    (case Qo=>walk_at "at")
    (case Qp=>walk_at "at")
    (case z_all=>k_is)
    (case z_any=>k_is)
    (case z_bool=>k_is)
    (case z_enumerate=>k_is)
    (case z_int=>k_is)
    (case z_isinstance=>k_is)
    (case z_len=>k_is)
    (case z_list=>k_is)
    (case z_max=>k_is)
    (case z_min=>k_is)
    (case z_range=>k_is)
    (case z_set=>k_is)
    (case z_sorted=>k_is)
    (case z_sum=>k_is)
    (case z_tuple=>k_is)
    (case ga_ANSWERS=>k_is)
    (case gl_ANSWERS=>k_is)
    (case ga_GREATEST=>k_is)
    (case ga_WAYS=>k_is)
    (case gl_WAYS=>k_is)
    (case ca=>k_is)
    (case Qr=>k_is)
    (case cin=>k_is)
    (case Qs=>k_is)
    (case Qt=>k_is)
    (case Qu=>k_is)
    (case Qw=>k_is)
    (case Qx=>k_is)
    (case Qy=>k_is)
    (case JV=>k_is)
    (case Dj=>k_is)
    (case xV=>k_is)
    (case JW=>k_is)
    (case Dk=>k_is)
    (case xW=>k_is)
    (case JX=>k_is)
    (case Dl=>k_is)
    (case xX=>k_is)
    (case Qz=>k_is)
    (case QA=>k_is)
    (case QC=>k_is)
    (case QD=>k_is)
    (case QE=>k_is)
    (case JY=>k_is)
    (case JZ=>k_is)
    (case J5=>k_is)
    (case J6=>k_is)
    (case J7=>k_is)
    (case J8=>k_is)
    (case J9=>k_is)
    (case Ka=>k_is)
    (case ld=>k_is)
    (case QF=>walk_at "tm")
    (case QG=>kernel_rfl)
    (case QH=>(exact Mi.qx (by k_is)))
    (case QJ=>(exact Mi.qx (by k_is)))
