
import PyProof.Rows.All
import Wide.All
import OpenK.AllK
import Wide.FinOn
import Lean
import PyProof.EqAt
import PyProof.EqKinds
import PyProof.TupleCall
import PyProof.SetScanFacts
import PyProof.SetRoads
import PyProof.SetNew
import PyProof.TupleKey
import PyProof.DictFindH
import PyProof.Rows.SetFrom
import KE.KDictOf
import PyProof.AttrMissHeap
import PyProof.MeetsDictList
import PyProof.FString5
import PySem.Challenge.RW_fleethide_k22_whole_nets_and_ships_apart
set_option Elab.async false
set_option linter.all false
set_option maxRecDepth 100000
set_option maxHeartbeats 4000000
namespace St
open PySem
def s5:Nat→Nat
  | 0=>0
  | n+1=>5*s5 n+1
def g5:Nat→Nat→Nat
  | 0,x=>x
  | n+1,x=>5*g5 n x+1
theorem g5_eq (x:Nat):∀ n,g5 n x=x+s5 n*(4*x+1)
  | 0=>by simp [g5,s5]
  | n+1=>by
    unfold g5 s5
    rw [g5_eq x n,Nat.add_mul,Nat.mul_add,Nat.mul_assoc]
    omega
theorem g5_add (x m:Nat):∀ n,g5 (m+n) x=g5 n (g5 m x)
  | 0=>rfl
  | n+1=>by rw [← Nat.add_assoc];show 5*g5 (m+n) x+1=_;rw [g5_add x m n];rfl
theorem s5_add (m:Nat):∀ n,s5 (m+n)=s5 m+s5 n+4*(s5 m*s5 n)
  | 0=>by simp [s5]
  | n+1=>by
    rw [← Nat.add_assoc]
    show 5*s5 (m+n)+1=s5 m+(5*s5 n+1)+4*(s5 m*(5*s5 n+1))
    rw [s5_add m n,Nat.mul_add (s5 m),Nat.mul_left_comm (s5 m) 5]
    omega
theorem s5_pow:∀ k,∃ a,s5 (2 ^ k)=2 ^ k*(2*a+1)
  | 0=>⟨0,rfl⟩
  | k+1=>by
    obtain ⟨a,h⟩:=s5_pow k
    rw [Nat.pow_succ,Nat.mul_two,s5_add]
    generalize s5 (2 ^ k)=s at h
    generalize 2 ^ k=N at h
    refine ⟨a+s*(2*a+1),?_⟩
    have e:(N+N)*(2*(a+s*(2*a+1))+1)=2*(N*(2*a+1))+4*(s*(N*(2*a+1))):=by
      rw [← Nat.two_mul,Nat.mul_assoc 2 N]
      rw [show N*(2*(a+s*(2*a+1))+1)=N*(2*a+1)+N*(2*(s*(2*a+1))) by rw [← Nat.mul_add];congr 1;omega]
      rw [Nat.mul_add,show N*(2*(s*(2*a+1)))=2*(s*(N*(2*a+1))) by
        rw [Nat.mul_left_comm N 2,Nat.mul_left_comm N s]]
      omega
    rw [e,← h];omega
theorem g5_half (k x:Nat):g5 (2 ^ k) x%2 ^ (k+1)=(x+2 ^ k)%2 ^ (k+1):=by
  obtain ⟨a,h⟩:=s5_pow k
  rw [g5_eq,h,Nat.pow_succ]
  generalize 2 ^ k=N
  have:x+N*(2*a+1)*(4*x+1)=(x+N)+(N*2)*(a*(4*x+1)+2*x):=by
    rw [Nat.mul_assoc N,show (2*a+1)*(4*x+1)=2*(a*(4*x+1)+2*x)+1 by rw [Nat.add_mul,Nat.mul_assoc];omega]
    rw [Nat.mul_add,Nat.mul_assoc N 2];omega
  rw [this,Nat.add_mul_mod_self_left]
theorem full:∀ (k x y:Nat),∃ n,n<2 ^ k∧g5 n x%2 ^ k=y%2 ^ k
  | 0,x,y=>⟨0,by decide,by simp [Nat.mod_one]⟩
  | k+1,x,y=>by
    obtain ⟨n,h1,h2⟩:=full k x y
    have hp:2 ^ (k+1)=2*2 ^ k:=by rw [Nat.pow_succ,Nat.mul_comm]
    by_cases h:g5 n x%2 ^ (k+1)=y%2 ^ (k+1)
    · exact ⟨n,by omega,h⟩
    · refine ⟨n+2 ^ k,by omega,?_⟩
      rw [g5_add,g5_half,hp] at *
      generalize g5 n x=z at h h2
      have hN:0<2 ^ k:=Nat.two_pow_pos k
      generalize 2 ^ k=N at *
      have e1:=Nat.mod_mod_of_dvd z (⟨2,by rw [Nat.mul_comm]⟩:N ∣ 2*N)
      have e2:=Nat.mod_mod_of_dvd y (⟨2,by rw [Nat.mul_comm]⟩:N ∣ 2*N)
      have b1:=Nat.mod_lt z (show 0<2*N by omega)
      have b2:=Nat.mod_lt y (show 0<2*N by omega)
      rw [Nat.add_mod,Nat.mod_eq_of_lt (show N<2*N by omega)]
      generalize z%(2*N)=u at *
      generalize y%(2*N)=v at *
      have d1:=Nat.div_add_mod u N
      have d2:=Nat.div_add_mod v N
      have q1:u/N<2:=Nat.div_lt_of_lt_mul (by omega)
      have q2:v/N<2:=Nat.div_lt_of_lt_mul (by omega)
      have r1:=Nat.mod_lt u hN
      have hr:u%N=v%N:=by omega
      generalize u/N=c at *
      generalize v/N=d at *
      rw [hr] at d1 r1
      generalize v%N=w at *
      have cc:c=0∨c=1:=by clear d1 d2;omega
      have dd:d=0∨d=1:=by clear d1 d2;omega
      rcases cc with rfl | rfl<;>rcases dd with rfl | rfl
      · exact absurd (by omega) h
      · rw [Nat.mod_eq_of_lt (by omega)];omega
      · rw [show u+N=2*N+v by omega,Nat.add_mod_left,Nat.mod_eq_of_lt (by omega)]
      · exact absurd (by omega) h
theorem gap:∀ (l:List Nat) (a:Nat),l.Pairwise (· < ·)→(∀ x∈l,a≤x)→∃ x,a≤x∧x≤a+l.length∧x∉l
  | [],a,_,_=>⟨a,Nat.le_refl _,by simp,by simp⟩
  | b::r,a,h,hl=>by
    obtain ⟨h1,h2⟩:=List.pairwise_cons.mp h
    have hb:=hl b List.mem_cons_self
    by_cases e:b=a
    · subst e
      obtain ⟨x,x1,x2,x3⟩:=gap r (b+1) h2 fun x hx=>h1 x hx
      refine ⟨x,by omega,by simp;omega,fun hx=>?_⟩
      rcases List.mem_cons.mp hx with z | z
      · omega
      · exact x3 z
    · refine ⟨a,Nat.le_refl _,by simp,fun hx=>?_⟩
      rcases List.mem_cons.mp hx with z | z
      · omega
      · have:=h1 a z;omega
theorem below_go (xs:Array Nat) (j:Nat) (up:xs.toList.Pairwise (· < ·)):∀ (fuel lo hi:Nat),lo≤hi→hi≤xs.size→hi-lo≤fuel→(∀ x∈xs.toList.take lo,x<j)→(∀ x∈xs.toList.drop hi,j≤x)→
    ∃ r,SetTable.below.go xs j fuel lo hi=r∧r≤xs.size∧(∀ x∈xs.toList.take r,x<j)∧∀ x∈xs.toList.drop r,j≤x
  | 0,lo,hi,h1,h2,h3,h4,h5=>⟨lo,rfl,by omega,h4,by rw [show lo=hi by omega];exact h5⟩
  | fuel+1,lo,hi,h1,h2,h3,h4,h5=>by
    unfold SetTable.below.go
    by_cases hl:lo<hi
    · rw [if_pos hl]
      dsimp only
      have hm:(lo+hi)/2<xs.size:=by omega
      have hg:xs.getD ((lo+hi)/2) j=xs.toList[(lo+hi)/2]'(by simpa using hm):=by simp [Array.getD,hm]
      rw [hg]
      generalize hmm:(lo+hi)/2=mid at *
      have hml:mid<xs.toList.length:=by simpa using hm
      by_cases hc:xs.toList[mid]<j
      · rw [if_pos hc]
        refine below_go xs j up fuel (mid+1) hi (by omega) h2 (by omega) (fun x hx=>?_) h5
        obtain ⟨i,hi1,rfl⟩:=List.mem_take_iff_getElem.mp hx
        by_cases e:i=mid
        · subst e;exact hc
        · exact Nat.lt_trans (List.pairwise_iff_getElem.mp up i mid (by omega) hml (by omega)) hc
      · rw [if_neg hc]
        refine below_go xs j up fuel lo mid (by omega) (by omega) (by omega) h4 (fun x hx=>?_)
        obtain ⟨i,hi1,rfl⟩:=List.mem_drop_iff_getElem.mp hx
        by_cases e:i=0
        · subst e;simpa using hc
        · have:=List.pairwise_iff_getElem.mp up mid (mid+i) hml (by omega) (by omega)
          omega
    · rw [if_neg hl]
      exact ⟨lo,rfl,by omega,h4,by rw [show lo=hi by omega];exact h5⟩
theorem below_ok (xs:Array Nat) (j:Nat) (up:xs.toList.Pairwise (· < ·)):SetTable.below xs j≤xs.size∧(∀ x∈xs.toList.take (SetTable.below xs j),x<j)∧∀ x∈xs.toList.drop (SetTable.below xs j),j≤x:=by
  obtain ⟨r,h1,h2⟩:=below_go xs j up xs.size 0 xs.size (Nat.zero_le _) (Nat.le_refl _) (Nat.le_refl _) (by simp) (fun x hx=>by rw [← Array.length_toList,List.drop_length] at hx;cases hx)
  unfold SetTable.below
  rw [h1];exact h2
theorem below_at {xs:Array Nat} {i j:Nat} (up:xs.toList.Pairwise (· < ·)) (h:xs[i]?=some j):SetTable.below xs j=i:=by
  obtain ⟨h1,h2,h3⟩:=below_ok xs j up
  generalize SetTable.below xs j=r at *
  have h':xs.toList[i]?=some j:=by simpa using h
  obtain ⟨hi,e⟩:=List.getElem?_eq_some_iff.mp h'
  rcases Nat.lt_trichotomy r i with hlt | rfl | hgt
  · have hr:r<xs.toList.length:=by omega
    have a1:=h3 xs.toList[r] (List.mem_drop_iff_getElem.mpr ⟨0,by simpa using hr,by simp⟩)
    have a2:=List.pairwise_iff_getElem.mp up r i hr hi hlt
    omega
  · rfl
  · have:=h2 xs.toList[i] (List.mem_take_iff_getElem.mpr ⟨i,by omega,rfl⟩)
    omega
theorem has_nil (j:Nat):SetTable.has #[] j=false:=by
  unfold SetTable.has;simp
theorem slot_live {t:SetTable} {i j:Nat} (up:t.place.toList.Pairwise (· < ·)) (h:t.place[i]?=some j):t.slot j=.live i:=by
  unfold SetTable.slot
  rw [below_at up h]
  dsimp only
  rw [h]
  simp
theorem slot_empty {t:SetTable} {j:Nat} (hd:t.dummies=#[]) (h:j∉t.place.toList):t.slot j=.empty:=by
  unfold SetTable.slot
  dsimp only
  rw [if_neg,hd,has_nil]
  · rfl
  · intro e
    have e2:t.place[SetTable.below t.place j]?=some j:=by simpa using e
    exact h (by have:=Array.mem_of_getElem? e2;simpa using this)
end St
namespace St
open PySem
def adv (mask:Nat) (p:SetTable.Probe):SetTable.Probe:=
  if p.more>0 then { p with j:=p.j+1,more:=p.more-1 } else
  { p with j:=(SetTable.leap mask p.i p.perturb).1,more:=SetTable.runEnd mask (SetTable.leap mask p.i p.perturb).1-(SetTable.leap mask p.i p.perturb).1,i:=(SetTable.leap mask p.i p.perturb).1,perturb:=(SetTable.leap mask p.i p.perturb).2 }
theorem adv_eq (t:SetTable) (p:SetTable.Probe):t.advance p=adv t.mask p:=rfl
def it (mask:Nat) (p:SetTable.Probe):Nat→SetTable.Probe
  | 0=>p
  | m+1=>adv mask (it mask p m)
theorem it_succ (mask:Nat) (p:SetTable.Probe):∀ m,it mask p (m+1)=it mask (adv mask p) m
  | 0=>rfl
  | m+1=>by show adv mask (it mask p (m+1))=adv mask (it mask (adv mask p) m);rw [it_succ mask p m]
theorem it_add (mask:Nat) (p:SetTable.Probe) (a:Nat):∀ b,it mask p (a+b)=it mask (it mask p a) b
  | 0=>rfl
  | b+1=>by rw [← Nat.add_assoc];show adv mask (it mask p (a+b))=_;rw [it_add mask p a b];rfl
def st (mask i pert:Nat):SetTable.Probe:={ j:=i,more:=SetTable.runEnd mask i-i,i:=i,perturb:=pert,dummy:=none }
theorem start_eq (t:SetTable) (h:Int):t.probeStart h=st t.mask (SetTable.bits h%(t.mask+1)) (SetTable.bits h):=rfl
theorem run_le (mask i:Nat) (h:i≤mask):SetTable.runEnd mask i-i≤9∧i≤SetTable.runEnd mask i∧SetTable.runEnd mask i≤mask:=by
  unfold SetTable.runEnd;split<;>omega
theorem it_run (mask i pert:Nat):∀ r,r≤SetTable.runEnd mask i-i→it mask (st mask i pert) r={ j:=i+r,more:=SetTable.runEnd mask i-i-r,i:=i,perturb:=pert,dummy:=none }
  | 0,_=>rfl
  | r+1,h=>by
    show adv mask (it mask (st mask i pert) r)=_
    rw [it_run mask i pert r (by omega)]
    unfold adv
    rw [if_pos (by dsimp only;omega)]
    dsimp only
    congr 1
def lp (mask:Nat):Nat→Nat×Nat→Nat×Nat
  | 0,q=>q
  | n+1,q=>lp mask n (SetTable.leap mask q.1 q.2)
theorem it_next (mask i pert:Nat) (h:i≤mask):it mask (st mask i pert) (SetTable.runEnd mask i-i+1)=st mask (SetTable.leap mask i pert).1 (SetTable.leap mask i pert).2:=by
  show adv mask (it mask (st mask i pert) (SetTable.runEnd mask i-i))=_
  rw [it_run mask i pert _ (Nat.le_refl _)]
  unfold adv
  rw [if_neg (by dsimp only;omega)]
  rfl
theorem leap_le (mask i pert:Nat):(SetTable.leap mask i pert).1≤mask:=by
  unfold SetTable.leap
  have:=Nat.mod_lt (i*5+1+pert/32) (show 0<mask+1 by omega)
  dsimp only;omega
theorem it_lp (mask:Nat):∀ (n i pert:Nat),i≤mask→∃ m,m≤10*n∧it mask (st mask i pert) m=st mask (lp mask n (i,pert)).1 (lp mask n (i,pert)).2
  | 0,i,pert,_=>⟨0,Nat.le_refl _,rfl⟩
  | n+1,i,pert,h=>by
    obtain ⟨m,h1,h2⟩:=it_lp mask n _ (SetTable.leap mask i pert).2 (leap_le mask i pert)
    have hr:=(run_le mask i h).1
    refine ⟨SetTable.runEnd mask i-i+1+m,by omega,?_⟩
    rw [it_add,it_next mask i pert h,h2]
    rfl
theorem lp_pert (mask:Nat):∀ (n i pert:Nat),(lp mask n (i,pert)).2=pert/32 ^ n
  | 0,i,pert=>by simp [lp]
  | n+1,i,pert=>by
    show (lp mask n ((SetTable.leap mask i pert).1,pert/32)).2=_
    rw [lp_pert mask n,Nat.div_div_eq_div_mul,Nat.pow_succ,Nat.mul_comm]
theorem lp_add (mask a:Nat):∀ (b:Nat) (q:Nat×Nat),lp mask (b+a) q=lp mask a (lp mask b q)
  | 0,q=>by rw [Nat.zero_add];rfl
  | b+1,q=>by rw [show b+1+a=(b+a)+1 by omega];show lp mask (b+a) _=lp mask a (lp mask b _);rw [lp_add mask a b]
theorem lp_zero (mask:Nat):∀ (n i:Nat),i≤mask→lp mask n (i,0)=(g5 n i%(mask+1),0)
  | 0,i,h=>by show (i,0)=(i%(mask+1),0);rw [Nat.mod_eq_of_lt (by omega)]
  | n+1,i,h=>by
    have e:lp mask (n+1) (i,0)=SetTable.leap mask (lp mask n (i,0)).1 (lp mask n (i,0)).2:=by rw [lp_add mask 1 n];rfl
    rw [e,lp_zero mask n i h]
    show ((g5 n i%(mask+1)*5+1+0/32)%(mask+1),0/32)=((5*g5 n i+1)%(mask+1),0)
    have:(g5 n i%(mask+1)*5+1+0/32)%(mask+1)=(5*g5 n i+1)%(mask+1):=by
      rw [Nat.zero_div,Nat.add_zero,Nat.add_mod,Nat.mod_mul_mod,← Nat.add_mod,Nat.mul_comm]
    rw [this]
theorem lp_le (mask:Nat):∀ (n i pert:Nat),i≤mask→(lp mask n (i,pert)).1≤mask
  | 0,i,pert,h=>h
  | n+1,i,pert,h=>lp_le mask n _ _ (leap_le mask i pert)
theorem bits_lt (h:Int):SetTable.bits h<2 ^ 64:=by
  unfold SetTable.bits
  have a:=Int.emod_nonneg h (show (2 ^ 64:Int)≠0 by decide)
  have b:=Int.emod_lt_of_pos h (show (0:Int)<2 ^ 64 by decide)
  have c:((2:Int) ^ 64)=((2 ^ 64:Nat):Int):=by decide
  omega
theorem meets (k:Nat) (mask:Nat) (hk:mask+1=2 ^ k) (i pert x:Nat) (hi:i≤mask) (hp:pert<2 ^ 64) (hx:x≤mask):∃ n,n≤13+mask∧(lp mask n (i,pert)).1=x:=by
  have z:lp mask 13 (i,pert)=((lp mask 13 (i,pert)).1,0):=by
    have:=lp_pert mask 13 i pert
    rw [Nat.div_eq_of_lt (Nat.lt_trans hp (by decide))] at this
    exact Prod.ext rfl this
  obtain ⟨n,h1,h2⟩:=full k (lp mask 13 (i,pert)).1 x
  refine ⟨13+n,by omega,?_⟩
  rw [lp_add mask n 13,z,lp_zero mask n _ (lp_le mask 13 i pert hi)]
  show g5 n _%(mask+1)=x
  rw [hk,h2,← hk,Nat.mod_eq_of_lt (by omega)]
theorem it_dummy (mask:Nat) (p:SetTable.Probe) (h:p.dummy=none):∀ m,(it mask p m).dummy=none
  | 0=>h
  | m+1=>by
    show (adv mask (it mask p m)).dummy=none
    unfold adv
    split
    · exact it_dummy mask p h m
    · exact it_dummy mask p h m
theorem it_le (mask i pert:Nat) (hi:i≤mask):∀ m,(it mask (st mask i pert) m).i≤mask∧(it mask (st mask i pert) m).j+(it mask (st mask i pert) m).more≤mask
  | 0=>⟨hi,by have:=run_le mask i hi;show i+(SetTable.runEnd mask i-i)≤mask;omega⟩
  | m+1=>by
    obtain ⟨h1,h2⟩:=it_le mask i pert hi m
    have e:it mask (st mask i pert) (m+1)=adv mask (it mask (st mask i pert) m):=rfl
    rw [e]
    generalize it mask (st mask i pert) m=p at *
    unfold adv
    split
    · exact ⟨h1,by dsimp only;omega⟩
    · have hl:=leap_le mask p.i p.perturb
      have hr:=run_le mask _ hl
      exact ⟨hl,by dsimp only;omega⟩
structure Ok (t:SetTable) (hs:List Int):Prop where
  dum:t.dummies=#[]
  pw:∃ k,t.mask+1=2 ^ k
  up:t.place.toList.Pairwise (· < ·)
  le:∀ x∈t.place.toList,x≤t.mask
  len:t.place.size=hs.length
  lt:t.place.size≤t.mask
  ch:∀ q∈t.place.toList.zip hs,∃ m,(it t.mask (t.probeStart q.2) m).j=q.1∧∀ m'<m,(it t.mask (t.probeStart q.2) m').j∈t.place.toList
theorem pstart (mask:Nat) (h:Int):SetTable.bits h%(mask+1)≤mask:=by
  have:=Nat.mod_lt (SetTable.bits h) (show 0<mask+1 by omega);omega
theorem free_soon {l:List Nat} {mask:Nat} (hk:∃ k,mask+1=2 ^ k) (up:l.Pairwise (· < ·)) (hl:l.length≤mask) (i pert:Nat) (hi:i≤mask) (hp:pert<2 ^ 64) :
    ∃ n,n≤13+mask∧(lp mask n (i,pert)).1∉l:=by
  obtain ⟨k,hk⟩:=hk
  obtain ⟨x,_,x2,x3⟩:=gap l 0 up fun _ _=>Nat.zero_le _
  obtain ⟨n,h1,h2⟩:=meets k mask hk i pert x hi hp (by omega)
  exact ⟨n,h1,by rw [h2];exact x3⟩
theorem Ok.soon {t:SetTable} {hs:List Int} (o:Ok t hs) (h:Int):∃ m,m<10*SetTable.turns t.mask∧(it t.mask (t.probeStart h) m).j∉t.place.toList:=by
  obtain ⟨n,h1,h2⟩:=free_soon o.pw o.up (by simpa using o.lt) _ _ (pstart t.mask h) (bits_lt h)
  obtain ⟨m,h3,h4⟩:=it_lp t.mask n _ (SetTable.bits h) (pstart t.mask h)
  refine ⟨m,by unfold SetTable.turns;omega,?_⟩
  rw [start_eq,h4]
  exact h2
theorem probe_go {t:SetTable} (hd:t.dummies=#[]) (up:t.place.toList.Pairwise (· < ·)) (ha:Nat→Int) (h:Int):∀ (fuel:Nat) (p:SetTable.Probe),p.dummy=none→(∃ m,m<fuel∧(it t.mask p m).j∉t.place.toList)→
    ∃ met m,SetTable.probe.go t ha h fuel p=some met∧(∀ m'<m,∃ i,t.place[i]?=some (it t.mask p m').j∧ha i≠h)∧
      ((met=.empty (it t.mask p m).j none∧(it t.mask p m).j∉t.place.toList)∨∃ i,t.place[i]?=some (it t.mask p m).j∧ha i=h∧met=.candidate (it t.mask p m).j i (it t.mask p (m+1)))
  | 0,p,_,⟨m,h1,_⟩=>by omega
  | fuel+1,p,hp,⟨m,h1,h2⟩=>by
    unfold SetTable.probe.go
    by_cases hm:p.j∈t.place.toList
    · obtain ⟨i,hi⟩:=List.mem_iff_getElem?.mp hm
      have hi':t.place[i]?=some p.j:=by simpa using hi
      rw [slot_live up hi']
      dsimp only
      by_cases hh:ha i=h
      · rw [if_pos (by simpa using hh)]
        exact ⟨_,0,rfl,fun m' z=>by omega,.inr ⟨i,hi',hh,rfl⟩⟩
      · rw [if_neg (by simpa using hh),adv_eq]
        have hm0:m≠0:=fun z=>h2 (by rw [z];exact hm)
        obtain ⟨m1,rfl⟩:∃ m1,m=m1+1:=⟨m-1,by omega⟩
        obtain ⟨met,m2,g1,g2,g3⟩:=probe_go hd up ha h fuel (adv t.mask p) (by have:=it_dummy t.mask p hp 1;exact this) ⟨m1,by omega,by rw [← it_succ];exact h2⟩
        refine ⟨met,m2+1,g1,fun m' hm'=>?_,?_⟩
        · cases m' with
          | zero=>exact ⟨i,hi',hh⟩
          | succ m'=>rw [it_succ];exact g2 m' (by omega)
        · rw [it_succ,it_succ];exact g3
    · rw [slot_empty hd hm]
      dsimp only
      exact ⟨_,0,rfl,fun m' z=>by omega,.inl ⟨by rw [hp];rfl,hm⟩⟩
end St
namespace St
open PySem
theorem zip_cut {α β:Type}:∀ (p:Nat) (xs:List α) (ys:List β) (x:α) (y:β),xs.length=ys.length→p≤xs.length→(xs.take p++x::xs.drop p).zip (ys.take p++y::ys.drop p)=(xs.zip ys).take p++(x,y)::(xs.zip ys).drop p
  | 0,xs,ys,x,y,_,_=>rfl
  | p+1,[],_,_,_,_,h=>by simp at h
  | p+1,_::_,[],_,_,h,_=>by simp at h
  | p+1,a::xs,b::ys,x,y,h,hp=>by
    simp only [List.take_succ_cons,List.drop_succ_cons,List.cons_append,List.zip_cons_cons]
    rw [zip_cut p xs ys x y (by simpa using h) (by simpa using hp)]
theorem mem_cut {α:Type} (p:Nat) (l:List α) (x z:α):z∈l.take p++x::l.drop p↔z=x∨z∈l:=by
  rw [List.mem_append,List.mem_cons]
  constructor
  · rintro (h | h | h)
    · exact .inr (List.mem_of_mem_take h)
    · exact .inl h
    · exact .inr (List.mem_of_mem_drop h)
  · rintro (h | h)
    · exact .inr (.inl h)
    · rw [← List.take_append_drop p l] at h
      rcases List.mem_append.mp h with h | h
      · exact .inl h
      · exact .inr (.inr h)
theorem len_cut {α:Type} (p:Nat) (l:List α) (x:α):(l.take p++x::l.drop p).length=l.length+1:=by
  rw [List.length_append,List.length_cons,← Nat.add_assoc,← List.length_append,List.take_append_drop]
theorem Ok.put {t:SetTable} {hs:List Int} (o:Ok t hs) (h:Int) (m:Nat) (hj:(it t.mask (t.probeStart h) m).j∉t.place.toList) (hb:∀ m'<m,(it t.mask (t.probeStart h) m').j∈t.place.toList) (hlt:t.place.size+1≤t.mask) (pl:Bool) :
    ∃ p,(t.put (it t.mask (t.probeStart h) m).j).2=p∧p≤hs.length∧Ok { (t.put (it t.mask (t.probeStart h) m).j).1 with plain:=pl } (hs.take p++h::hs.drop p):=by
  have hle:=(it_le t.mask _ (SetTable.bits h) (pstart t.mask h) m).2
  rw [← start_eq] at hle
  generalize hjj:(it t.mask (t.probeStart h) m).j=j at *
  obtain ⟨b1,b2,b3⟩:=below_ok t.place j o.up
  refine ⟨_,rfl,by rw [← o.len];exact b1,?_⟩
  show Ok { t with place:=SetTable.insertAt t.place (SetTable.below t.place j) j,dummies:=if SetTable.has t.dummies j then SetTable.eraseAt t.dummies (SetTable.below t.dummies j) else t.dummies,plain:=pl } (hs.take (SetTable.below t.place j)++h::hs.drop (SetTable.below t.place j))
  have hd:(if SetTable.has t.dummies j then SetTable.eraseAt t.dummies (SetTable.below t.dummies j) else t.dummies)=#[]:=by
    rw [o.dum,has_nil];rfl
  rw [hd]
  have hl:t.place.toList.length=hs.length:=by rw [← o.len];simp
  have e1:=SetTable.toList_insertAt t.place (SetTable.below t.place j) j
  have hsz:(SetTable.insertAt t.place (SetTable.below t.place j) j).size=t.place.size+1:=by
    rw [← Array.length_toList,e1,len_cut];simp
  refine ⟨rfl,o.pw,?_,fun x hx=>?_,?_,?_,fun q hq=>?_⟩
  · show List.Pairwise _ (SetTable.insertAt t.place _ j).toList
    rw [e1]
    have hup:=o.up
    rw [← List.take_append_drop (SetTable.below t.place j) t.place.toList] at hup
    obtain ⟨u1,u2,u3⟩:=List.pairwise_append.mp hup
    refine List.pairwise_append.mpr ⟨u1,List.pairwise_cons.mpr ⟨fun x hx=>?_,u2⟩,fun x hx y hy=>?_⟩
    · have:=b3 x hx
      have:x≠j:=fun z=>hj (z▸List.mem_of_mem_drop hx)
      omega
    · rcases List.mem_cons.mp hy with rfl | hy
      · exact b2 x hx
      · exact u3 x hx y hy
  · have hx':x∈(SetTable.insertAt t.place (SetTable.below t.place j) j).toList:=hx
    rw [e1,mem_cut] at hx'
    rcases hx' with rfl | hx'
    · show x≤t.mask;omega
    · exact o.le x hx'
  · show (SetTable.insertAt t.place _ j).size=_
    rw [hsz,len_cut,o.len]
  · show (SetTable.insertAt t.place _ j).size≤_
    rw [hsz];exact hlt
  · have hq':q∈(SetTable.insertAt t.place (SetTable.below t.place j) j).toList.zip (hs.take (SetTable.below t.place j)++h::hs.drop (SetTable.below t.place j)):=hq
    have sub:∀ x,x∈t.place.toList→x∈(SetTable.insertAt t.place (SetTable.below t.place j) j).toList:=fun x hx=>by rw [e1,mem_cut];exact .inr hx
    rw [e1,zip_cut _ _ _ _ _ hl (by simpa using b1),mem_cut] at hq'
    rcases hq' with rfl | hq'
    · exact ⟨m,hjj,fun m' hm'=>sub _ (hb m' hm')⟩
    · obtain ⟨m2,g1,g2⟩:=o.ch q hq'
      exact ⟨m2,g1,fun m' hm'=>sub _ (g2 m' hm')⟩
def taken (ow:Array (Option Nat)) (j:Nat):Prop:=∃ k,ow[j]?=some (some k)
theorem find_first (n:Nat) (f:Nat→Bool):(∃ k,k<n∧(List.range n).find? f=some k∧f k=true∧∀ k'<k,f k'=false)∨((List.range n).find? f=none∧∀ k<n,f k=false):=by
  cases e:(List.range n).find? f with
  | none=>
    right
    refine ⟨rfl,fun k hk=>?_⟩
    have:=List.find?_eq_none.mp e k (List.mem_range.mpr hk)
    simpa using this
  | some k=>
    left
    obtain ⟨h1,h2⟩:=List.find?_eq_some_iff_append.mp e
    obtain ⟨as,bs,h3,h4⟩:=h2
    have hk:k<n:=by
      have:k∈List.range n:=by rw [h3];simp
      exact List.mem_range.mp this
    refine ⟨k,hk,rfl,h1,fun k' hk'=>?_⟩
    have hlen:as.length=k:=by
      have e1:(List.range n)[as.length]?=some k:=by rw [h3];simp
      rw [List.getElem?_range (by have:=congrArg List.length h3;simp at this;omega)] at e1
      exact Option.some.inj e1
    have:k'∈as:=by
      have e1:(List.range n)[k']?=some k':=List.getElem?_range (by omega)
      rw [h3,List.getElem?_append_left (by omega)] at e1
      exact List.mem_of_getElem? e1
    simpa using h4 k' this
theorem free_ok {mask:Nat} {ow:Array (Option Nat)} (hsz:ow.size=mask+1):∀ (fuel i pert:Nat),i≤mask→(∃ n,n<fuel∧¬ taken ow (lp mask n (i,pert)).1)→
    ∃ m,SetTable.layClean.free mask ow fuel i pert=some (it mask (st mask i pert) m).j∧¬ taken ow (it mask (st mask i pert) m).j∧(it mask (st mask i pert) m).j≤mask∧∀ m'<m,taken ow (it mask (st mask i pert) m').j
  | 0,i,pert,_,⟨n,h,_⟩=>by omega
  | fuel+1,i,pert,hi,⟨n,hn,ht⟩=>by
    obtain ⟨r1,r2,r3⟩:=run_le mask i hi
    unfold SetTable.layClean.free
    have gd:∀ j,j≤mask→((ow.getD j (some 0)).isNone=true↔¬ taken ow j):=fun j hj=>by
      have hl:j<ow.size:=by omega
      unfold taken
      rw [Array.getElem?_eq_getElem hl]
      simp only [Array.getD,hl,dif_pos]
      cases h:ow[j] with
      | none=>simp [h]
      | some k=>simp [h]
    rcases find_first (SetTable.runEnd mask i+1-i) (fun k=>(ow.getD (i+k) (some 0)).isNone) with ⟨k,k1,k2,k3,k4⟩ | ⟨k2,k4⟩
    · rw [k2]
      dsimp only
      have e:(it mask (st mask i pert) k).j=i+k:=by rw [it_run mask i pert k (by omega)]
      refine ⟨k,by rw [e],by rw [e];exact (gd _ (by omega)).mp k3,by rw [e];omega,fun m' hm'=>?_⟩
      rw [it_run mask i pert m' (by omega)]
      have h1:=k4 m' hm'
      have h2:=gd (i+m') (by omega)
      by_cases hh:taken ow (i+m')
      · exact hh
      · rw [h2.mpr hh] at h1;cases h1
    · rw [k2]
      dsimp only
      have n0:n≠0:=fun z=>by
        subst z
        have h1:=k4 0 (by omega)
        rw [Nat.add_zero,(gd i hi).mpr ht] at h1;cases h1
      obtain ⟨n',rfl⟩:∃ n',n=n'+1:=⟨n-1,by omega⟩
      obtain ⟨m,g1,g2,g3,g4⟩:=free_ok hsz fuel _ (SetTable.leap mask i pert).2 (leap_le mask i pert) ⟨n',by omega,ht⟩
      rw [← it_next mask i pert hi,← it_add] at g1 g2 g3
      refine ⟨_,g1,g2,g3,fun m' hm'=>?_⟩
      by_cases hh:m'<SetTable.runEnd mask i-i+1
      · rw [it_run mask i pert m' (by omega)]
        have h1:=k4 m' (by omega)
        have h2:=gd (i+m') (by omega)
        by_cases hk:taken ow (i+m')
        · exact hk
        · rw [h2.mpr hk] at h1;cases h1
      · have:=g4 (m'-(SetTable.runEnd mask i-i+1)) (by omega)
        rw [← it_next mask i pert hi,← it_add] at this
        rw [show SetTable.runEnd mask i-i+1+(m'-(SetTable.runEnd mask i-i+1))=m' by omega] at this
        exact this
end St
namespace St
open PySem
structure Lay (mask:Nat) (done:List Int) (ow:Array (Option Nat)):Prop where
  sz:ow.size=mask+1
  bd:∀ (j k:Nat),ow[j]?=some (some k)→k<done.length
  on:∀ k<done.length,∃ j:Nat,ow[j]?=some (some k)
  inj:∀ (j j' k:Nat),ow[j]?=some (some k)→ow[j']?=some (some k)→j=j'
  ch:∀ (j k:Nat) (h:Int),ow[j]?=some (some k)→done[k]?=some h→∃ m,(it mask (st mask (SetTable.bits h%(mask+1)) (SetTable.bits h)) m).j=j∧∀ m'<m,taken ow (it mask (st mask (SetTable.bits h%(mask+1)) (SetTable.bits h)) m').j
def lv (mask:Nat) (ow:Array (Option Nat)):List (Nat×Nat):=(List.range (mask+1)).filterMap fun j=>(ow.getD j none).map (j,·)
theorem getD_some {ow:Array (Option Nat)} {j k:Nat}:ow.getD j none=some k↔ow[j]?=some (some k):=by
  by_cases h:j<ow.size
  · simp [Array.getD,h]
  · simp [Array.getD,h]
theorem lv_mem {mask:Nat} {ow:Array (Option Nat)} (hsz:ow.size=mask+1) {q:Nat×Nat}:q∈lv mask ow↔ow[q.1]?=some (some q.2):=by
  unfold lv
  rw [List.mem_filterMap]
  constructor
  · rintro ⟨j,_,h⟩
    obtain ⟨k,h1,h2⟩:=Option.map_eq_some_iff.mp h
    subst h2
    exact getD_some.mp h1
  · intro h
    refine ⟨q.1,List.mem_range.mpr ?_,Option.map_eq_some_iff.mpr ⟨q.2,getD_some.mpr h,rfl⟩⟩
    have:=(Array.getElem?_eq_some_iff.mp h).1
    omega
theorem lv_up (mask:Nat) (ow:Array (Option Nat)):(lv mask ow).Pairwise fun a b=>a.1<b.1:=by
  unfold lv
  rw [List.pairwise_filterMap]
  refine List.Pairwise.imp_of_mem (R:=fun (x y:Nat)=>x<y) (fun {x y} _ _ hxy a ha b hb=>?_) List.pairwise_lt_range
  obtain ⟨_,_,rfl⟩:=Option.map_eq_some_iff.mp ha
  obtain ⟨_,_,rfl⟩:=Option.map_eq_some_iff.mp hb
  exact hxy
theorem Lay.nodup {mask:Nat} {done:List Int} {ow:Array (Option Nat)} (L:Lay mask done ow):((lv mask ow).map (·.2)).Nodup:=by
  unfold List.Nodup
  rw [List.pairwise_map]
  refine List.Pairwise.imp_of_mem (fun {a b} ha hb hab e=>?_) (lv_up mask ow)
  have h1:=(lv_mem L.sz).mp ha
  have h2:=(lv_mem L.sz).mp hb
  rw [e] at h1
  have:=L.inj _ _ _ h1 h2
  omega
theorem Lay.perm {mask:Nat} {done:List Int} {ow:Array (Option Nat)} (L:Lay mask done ow):((lv mask ow).map (·.2)).Perm (List.range done.length):=by
  refine (List.perm_ext_iff_of_nodup L.nodup List.nodup_range).mpr fun k=>?_
  rw [List.mem_map,List.mem_range]
  constructor
  · rintro ⟨q,hq,rfl⟩
    exact L.bd _ _ ((lv_mem L.sz).mp hq)
  · intro hk
    obtain ⟨j,hj⟩:=L.on k hk
    exact ⟨(j,k),(lv_mem L.sz).mpr hj,rfl⟩
theorem Lay.len {mask:Nat} {done:List Int} {ow:Array (Option Nat)} (L:Lay mask done ow):(lv mask ow).length=done.length:=by
  have:=L.perm.length_eq
  simpa using this
theorem taken_iff {mask:Nat} {ow:Array (Option Nat)} (hsz:ow.size=mask+1) (j:Nat):taken ow j↔j∈(lv mask ow).map (·.1):=by
  rw [List.mem_map]
  constructor
  · rintro ⟨k,hk⟩
    exact ⟨(j,k),(lv_mem hsz).mpr hk,rfl⟩
  · rintro ⟨q,hq,rfl⟩
    exact ⟨q.2,(lv_mem hsz).mp hq⟩
theorem Lay.step {mask:Nat} (hk:∃ k,mask+1=2 ^ k) {done:List Int} {ow:Array (Option Nat)} (L:Lay mask done ow) (hr:done.length≤mask) (h:Int) :
    ∃ j,SetTable.layClean.free mask ow (SetTable.turns mask) (SetTable.bits h%(mask+1)) (SetTable.bits h)=some j∧Lay mask (done++[h]) (ow.setIfInBounds j (some done.length)):=by
  have hup:((lv mask ow).map (·.1)).Pairwise (· < ·):=List.pairwise_map.mpr (lv_up mask ow)
  obtain ⟨n,h1,h2⟩:=free_soon hk hup (by rw [List.length_map,L.len];exact hr) _ _ (pstart mask h) (bits_lt h)
  rw [← taken_iff L.sz] at h2
  obtain ⟨m,g1,g2,g3,g4⟩:=free_ok L.sz (SetTable.turns mask) _ (SetTable.bits h) (pstart mask h) ⟨n,by unfold SetTable.turns;omega,h2⟩
  refine ⟨_,g1,?_⟩
  generalize hj:(it mask (st mask (SetTable.bits h%(mask+1)) (SetTable.bits h)) m).j=j at *
  have hjl:j<ow.size:=by rw [L.sz];omega
  have at_:∀ x:Nat,(ow.setIfInBounds j (some done.length))[x]?=if x=j then some (some done.length) else ow[x]?:=fun x=>by
    rw [Array.getElem?_setIfInBounds]
    by_cases e:j=x
    · subst e;simp [hjl]
    · rw [if_neg e,if_neg (Ne.symm e)]
  have keep:∀ x,taken ow x→taken (ow.setIfInBounds j (some done.length)) x:=fun x hq_=>by
    obtain ⟨k,hx⟩:=hq_
    refine ⟨k,?_⟩
    rw [at_,if_neg (fun z=>g2 ⟨k,by rw [← z];exact hx⟩)]
    exact hx
  refine ⟨by rw [Array.size_setIfInBounds];exact L.sz,fun x k hx=>?_,fun k hk'=>?_,fun x y k hx hy=>?_,fun x k h' hx hh=>?_⟩
  · rw [at_] at hx
    rw [List.length_append,List.length_singleton]
    split at hx
    · cases hx;omega
    · have:=L.bd x k hx;omega
  · rw [List.length_append,List.length_singleton] at hk'
    by_cases e:k=done.length
    · exact ⟨j,by rw [at_,if_pos rfl,e]⟩
    · obtain ⟨x,hx⟩:=L.on k (by omega)
      exact ⟨x,by rw [at_,if_neg (fun z=>g2 ⟨k,by rw [← z];exact hx⟩)];exact hx⟩
  · rw [at_] at hx hy
    split at hx<;>split at hy
    · omega
    · cases hx;have:=L.bd y _ hy;omega
    · cases hy;have:=L.bd x _ hx;omega
    · exact L.inj x y k hx hy
  · rw [at_] at hx
    split at hx
    · rename_i e
      cases hx
      rw [List.getElem?_append_right (Nat.le_refl _),Nat.sub_self] at hh
      cases hh
      exact ⟨m,by rw [hj,e],fun m' hm'=>keep _ (g4 m' hm')⟩
    · have hk':=L.bd x k hx
      rw [List.getElem?_append_left hk'] at hh
      obtain ⟨m2,a1,a2⟩:=L.ch x k h' hx hh
      exact ⟨m2,a1,fun m' hm'=>keep _ (a2 m' hm')⟩
theorem lay_fold {mask:Nat} (hk:∃ k,mask+1=2 ^ k):∀ (rest done:List Int) (ow:Array (Option Nat)),Lay mask done ow→done.length+rest.length≤mask→
    ∃ ow',rest.foldl (fun acc h=>do
      let (owner,k) ← acc
      let j ← SetTable.layClean.free mask owner (SetTable.turns mask) (SetTable.bits h%(mask+1)) (SetTable.bits h)
      pure (owner.setIfInBounds j (some k),k+1)) (some (ow,done.length))=some (ow',done.length+rest.length)∧Lay mask (done++rest) ow'
  | [],done,ow,L,_=>⟨ow,rfl,by rw [List.append_nil];exact L⟩
  | h::rest,done,ow,L,hl=>by
    rw [List.length_cons] at hl
    obtain ⟨j,h1,L2⟩:=L.step hk (by omega) h
    obtain ⟨ow',h3,L3⟩:=lay_fold hk rest (done++[h]) _ L2 (by rw [List.length_append,List.length_singleton];omega)
    refine ⟨ow',?_,by rw [List.append_assoc] at L3;exact L3⟩
    rw [List.foldl_cons]
    have e:(do
      let (owner,k) ← some (ow,done.length)
      let j ← SetTable.layClean.free mask owner (SetTable.turns mask) (SetTable.bits h%(mask+1)) (SetTable.bits h)
      pure (owner.setIfInBounds j (some k),k+1):Option _)=some (ow.setIfInBounds j (some done.length),done.length+1):=by
      show (SetTable.layClean.free mask ow (SetTable.turns mask) (SetTable.bits h%(mask+1)) (SetTable.bits h)).bind _=_
      rw [h1];rfl
    rw [e]
    rw [List.length_append,List.length_singleton] at h3
    rw [h3,List.length_cons,Nat.add_assoc,Nat.add_comm 1]
theorem lay_empty (mask:Nat):Lay mask [] (Array.replicate (mask+1) none):=by
  have no:∀ (j k:Nat),(Array.replicate (mask+1) (none:Option Nat))[j]?≠some (some k):=fun j k h=>by
    rw [Array.getElem?_replicate] at h
    split at h<;>cases h
  exact ⟨by simp,fun j k h=>absurd h (no j k),fun k h=>by simp at h,fun j _ k h=>absurd h (no j k),fun j k _ h=>absurd h (no j k)⟩
theorem layClean_ok {mask:Nat} (hk:∃ k,mask+1=2 ^ k) (hs:Array Int) (hl:hs.size≤mask):∃ ow,SetTable.layClean mask hs=some ow∧Lay mask hs.toList ow:=by
  obtain ⟨ow,h1,h2⟩:=lay_fold hk hs.toList [] _ (lay_empty mask) (by simpa using hl)
  refine ⟨ow,?_,h2⟩
  unfold SetTable.layClean
  rw [← Array.foldl_toList]
  have:(List.foldl (fun acc h=>do
      let (owner,k) ← acc
      let j ← SetTable.layClean.free mask owner (SetTable.turns mask) (SetTable.bits h%(mask+1)) (SetTable.bits h)
      pure (owner.setIfInBounds j (some k),k+1)) (some (Array.replicate (mask+1) none,0)) hs.toList)=some (ow,0+hs.toList.length):=h1
  rw [this];rfl
theorem laid_ok {mask:Nat} (hk:∃ k,mask+1=2 ^ k) (finger moves:Nat) (led plain:Bool) {α:Type} (es:Array (Int×α)) (hl:es.size≤mask) :
    ∃ t' order es',SetTable.laid mask finger moves led plain (es.map (·.1))=some (t',order)∧order.filterMap (es[·]?)=es'∧es'.size=es.size∧es'.toList.Perm es.toList∧t'.mask=mask∧t'.led=led∧t'.place.size=es.size∧Ok t' (es'.toList.map (·.1)):=by
  obtain ⟨ow,h1,L⟩:=layClean_ok hk (es.map (·.1)) (by simpa using hl)
  have hpm:=L.perm
  have hln:=L.len
  have hdl:(es.map (·.1)).toList.length=es.size:=by simp
  rw [hdl] at hpm hln
  have e0:((lv mask ow).map (·.2)).toArray.filterMap (es[·]?)=(((lv mask ow).map (·.2)).filterMap (es[·]?)).toArray:=by simp
  have hperm:(((lv mask ow).map (·.2)).filterMap (es[·]?)).Perm es.toList:=by
    have:=hpm.filterMap (es[·]?)
    rwa [filterMap_getElem?_range] at this
  have hget:∀ q∈lv mask ow,q.2<es.size:=fun q hq=>by
    have:=L.bd _ _ ((lv_mem L.sz).mp hq)
    rwa [hdl] at this
  have hmap:(((lv mask ow).map (·.2)).filterMap (es[·]?)).map (·.1)=(lv mask ow).map fun q=>((es.map (·.1)).toList.getD q.2 0):=by
    have:∀ l:List (Nat×Nat),(∀ q∈l,q.2<es.size)→((l.map (·.2)).filterMap (es[·]?)).map (·.1)=l.map fun q=>((es.map (·.1)).toList.getD q.2 0):=by
      intro l
      induction l with
      | nil=>intro _;rfl
      | cons q l ih=>
        intro hq
        have hh:=hq q List.mem_cons_self
        rw [List.map_cons,List.filterMap_cons_some (b:=es[q.2]) (Array.getElem?_eq_getElem hh),List.map_cons,ih fun x hx=>hq x (List.mem_cons_of_mem _ hx),List.map_cons]
        congr 1
        simp [List.getD,hh]
    exact this _ hget
  refine ⟨_,_,_,(by unfold SetTable.laid;rw [h1];rfl),rfl,?_,?_,rfl,rfl,?_,?_⟩
  · show (((lv mask ow).map (·.2)).toArray.filterMap (es[·]?)).size=_
    rw [e0,List.size_toArray,hperm.length_eq];simp
  · show (((lv mask ow).map (·.2)).toArray.filterMap (es[·]?)).toList.Perm _
    rw [e0];exact hperm
  · show ((lv mask ow).map (·.1)).toArray.size=_
    simp [hln]
  · have hl2:(((lv mask ow).map (·.2)).toArray.filterMap (es[·]?)).toList.map (·.1)=(lv mask ow).map fun q=>((es.map (·.1)).toList.getD q.2 0):=by
      rw [e0];exact hmap
    have pm:∀ x,x∈((lv mask ow).map (·.1))↔taken ow x:=fun x=>(taken_iff L.sz x).symm
    refine ⟨rfl,hk,List.pairwise_map.mpr (lv_up mask ow),fun x hx=>?_,?_,?_,fun q hq=>?_⟩
    · obtain ⟨k,hx⟩:=(pm x).mp hx
      have:=(Array.getElem?_eq_some_iff.mp hx).1
      show x≤mask
      have:=L.sz
      omega
    · show ((lv mask ow).map (·.1)).toArray.size=_
      rw [List.size_toArray,List.length_map]
      exact (by rw [show (((lv mask ow).map (·.2)).toArray.filterMap (es[·]?)).toList.map (·.1)=(lv mask ow).map fun q=>((es.map (·.1)).toList.getD q.2 0) from hl2,List.length_map]:(lv mask ow).length=((((lv mask ow).map (·.2)).toArray.filterMap (es[·]?)).toList.map (·.1)).length)
    · show ((lv mask ow).map (·.1)).toArray.size≤mask
      simp [hln];exact hl
    · have hq':q∈((lv mask ow).map (·.1)).zip ((((lv mask ow).map (·.2)).toArray.filterMap (es[·]?)).toList.map (·.1)):=hq
      rw [hl2,List.zip_map'] at hq'
      obtain ⟨r,hr,rfl⟩:=List.mem_map.mp hq'
      have hr1:=(lv_mem L.sz).mp hr
      have hr2:=hget r hr
      have hr3:(es.map (·.1)).toList[r.2]?=some ((es.map (·.1)).toList.getD r.2 0):=by
        have:r.2<(es.map (·.1)).toList.length:=by simpa using hr2
        rw [List.getD_eq_getElem?_getD,List.getElem?_eq_getElem this];rfl
      obtain ⟨m,a1,a2⟩:=L.ch r.1 r.2 _ hr1 hr3
      exact ⟨m,a1,fun m' hm'=>(pm _).mpr (a2 m' hm')⟩
end St
namespace St
open PySem
structure SK {prog:Program} {w:World} {K:Type} [DecidableEq K] (knd:HeapKind prog w K):Prop where
  cls:∀ {A:Around} {E:Value→Shared→Prop} {s:Shared} {k:K} {a:Addr} {Q:Bool→Shared→Prop},knd.is s.heap k a→Q false s→wpAny (model prog w) A (ofAClassStatement 8 (.ref a)) Q E s
  hbv:∀ {A:Around} {E:Value→Shared→Prop} {s:Shared} {k:K} {a:Addr} {Q:Bool→Shared→Prop},knd.is s.heap k a→(∀ b,Q b s)→wpAny (model prog w) A (hashByValue 8 (.ref a)) Q E s
def masks:List Nat:=[7,31,127,511,2047,8191]
theorem mask_le {m:Nat} (h:m∈masks):7≤m∧m≤8191∧m%2=1:=by
  unfold masks at h
  simp only [List.mem_cons,List.not_mem_nil,or_false] at h
  rcases h with rfl | rfl | rfl | rfl | rfl | rfl<;>decide
section
variable {prog:Program} {w:World} {K:Type} [DecidableEq K] {knd:HeapKind prog w K} {A:Around} {E:Value→Shared→Prop} {s:Shared}
def ent (knd:HeapKind prog w K) (x:K×Addr):Int×Value:=(knd.hash x.1,.ref x.2)
structure Tab (knd:HeapKind prog w K) (es:Array (Int×Value)) (t:SetTable) (xs:List (K×Addr)):Prop where
  perm:es.toList.Perm (xs.map (ent knd))
  ok:Ok t (es.toList.map (·.1))
  msk:t.mask∈masks
  nf:t.place.size*5<t.mask*3
theorem Tab.size {es:Array (Int×Value)} {t:SetTable} {xs:List (K×Addr)} (T:Tab knd es t xs):es.size=xs.length:=by
  have:=T.perm.length_eq
  simpa using this
theorem Tab.psize {es:Array (Int×Value)} {t:SetTable} {xs:List (K×Addr)} (T:Tab knd es t xs):t.place.size=es.size:=by
  have:=T.ok.len
  simpa using this
theorem fits_of {t:SetTable} {hs:List Int} (o:Ok t hs) {n:Nat} (hn:t.place.size=n):t.fits n=true:=by
  unfold SetTable.fits SetTable.fill
  rw [o.dum]
  have:=o.lt
  simp [hn];omega
theorem Tab.fits {es:Array (Int×Value)} {t:SetTable} {xs:List (K×Addr)} (T:Tab knd es t xs):t.fits es.size=true:=fits_of T.ok T.psize
theorem Tab.mem {es:Array (Int×Value)} {t:SetTable} {xs:List (K×Addr)} (T:Tab knd es t xs) {i:Nat} {e:Int×Value} (h:es[i]?=some e):∃ x∈xs,e=ent knd x:=by
  have h1:e∈es.toList:=by have:=Array.mem_of_getElem? h;simpa using this
  obtain ⟨x,hx,e2⟩:=List.mem_map.mp (T.perm.mem_iff.mp h1)
  exact ⟨x,hx,e2.symm⟩
theorem seen_no (S:SK knd) {b:Addr} {k:K} (hkey:knd.is s.heap k b) {stored:List Value} (hst:∀ v∈stored,∃ k' c,v=.ref c∧knd.is s.heap k' c) {Q:Bool→Shared→Prop} (h:Q false s) :
    wpAny (model prog w) A (searchCouldBeSeen (.ref b) stored) Q E s:=by
  unfold searchCouldBeSeen
  refine wpAny_bind ?_
  refine wpAny_forIn_list _ (fun rest r s'=>s'=s∧r=(none,())∧∀ v∈rest,∃ k' c,v=.ref c∧knd.is s.heap k' c) _ ?_ ?_ _ _ ⟨rfl,rfl,hst⟩
  · rintro x rest r s' ⟨rfl,rfl,hr⟩
    obtain ⟨k',c,rfl,hc⟩:=hr x List.mem_cons_self
    dsimp only
    have hr':∀ v∈rest,∃ k' c,v=Value.ref c∧knd.is s'.heap k' c:=fun v hv=>hr v (List.mem_cons_of_mem _ hv)
    split
    · exact wpAny_pure ⟨rfl,rfl,hr'⟩
    · refine wpAny_bind (knd.quiet hkey ?_)
      simp only [Bool.not_true,Bool.false_eq_true,if_false]
      refine wpAny_bind (knd.quiet hc ?_)
      simp only [Bool.not_true,Bool.false_eq_true,if_false]
      refine wpAny_bind (S.cls hkey ?_)
      simp only [Bool.false_eq_true,if_false]
      refine wpAny_bind (S.cls hc ?_)
      simp only [Bool.false_eq_true,if_false]
      exact wpAny_pure ⟨rfl,rfl,hr'⟩
  · rintro r s' ⟨rfl,rfl,_⟩
    exact wpAny_pure h
theorem same_ref {c:Addr} {Q:Bool→Shared→Prop} (h:Q true s):wpAny (model prog w) A (isSame (.ref c) (.ref c)) Q E s:=by
  unfold isSame
  dsimp only
  rw [if_pos (by simp)]
  exact wpAny_pure h
theorem search_ok (S:SK knd) (hu:knd.room A) {a b:Addr} {k:K} {o:Obj} {es:Array (Int×Value)} {ep:Nat} {t:SetTable} {xs:List (K×Addr)} (ho:s.heap.get? a=some o) (hd:o.data=.set es ep t) (T:Tab knd es t xs)
    (his:∀ x∈xs,knd.is s.heap x.1 x.2) (hkey:knd.is s.heap k b) {adding:Bool} {Q:SetFound→Shared→Prop}
    (hin:∀ c,(k,c)∈xs→∀ i,Q (.there (if adding=true then none else some i)) s)
    (hout:(∀ c,(k,c)∉xs)→∀ m,(it t.mask (t.probeStart (knd.hash k)) m).j∉t.place.toList→(∀ m'<m,(it t.mask (t.probeStart (knd.hash k)) m').j∈t.place.toList)→Q (.free (it t.mask (t.probeStart (knd.hash k)) m).j false) s)
    (mf:Nat) (hmf:mf<10*SetTable.turns t.mask) (hfr:(it t.mask (t.probeStart (knd.hash k)) mf).j∉t.place.toList) :
    ∀ (fuel m:Nat) (stand:Option SetTable.Probe),stand.getD (t.probeStart (knd.hash k))=it t.mask (t.probeStart (knd.hash k)) m→
      (∀ m'<m,(it t.mask (t.probeStart (knd.hash k)) m').j∈t.place.toList∧∀ i:Nat,t.place[i]?=some (it t.mask (t.probeStart (knd.hash k)) m').j→∀ c,(k,c)∈xs→es[i]?≠some (ent knd (k,c)))→mf-m<fuel→
      wpAny (model prog w) A (setSearchFrom a (.ref b) (knd.hash k) adding fuel stand) Q E s
  | 0,m,stand,_,_,h=>by omega
  | fuel+1,m,stand,hst,hbf,hfu=>by
    have hle:m≤mf:=by
      rcases Nat.lt_or_ge mf m with h | h
      · exact absurd (hbf mf h).1 hfr
      · exact h
    have f:=T.fits
    unfold setSearchFrom
    refine wpAny_bind (wpAny_setState_of ho hd f ?_)
    dsimp only
    rw [if_neg (by unfold SetTable.gaveWay;have:=(mask_le T.msk).2.2;simp [this])]
    rw [hst]
    have hdum:(it t.mask (t.probeStart (knd.hash k)) m).dummy=none:=it_dummy _ _ rfl m
    obtain ⟨met,m1,g1,g2,g3⟩:=probe_go (t:=t) T.ok.dum T.ok.up (fun i=>(es[i]?.map (·.1)).getD 0) (knd.hash k) (10*SetTable.turns t.mask) (it t.mask (t.probeStart (knd.hash k)) m) hdum ⟨mf-m,by omega,by rw [← it_add,show m+(mf-m)=mf by omega];exact hfr⟩
    generalize hpr:t.probe _ (knd.hash k) (it t.mask (t.probeStart (knd.hash k)) m)=pr
    have hpr2:pr=some met:=hpr.symm.trans g1
    subst hpr2
    dsimp only
    simp only [← it_add] at g2 g3
    have hbf2:∀ m'<m+m1,(it t.mask (t.probeStart (knd.hash k)) m').j∈t.place.toList∧∀ i:Nat,t.place[i]?=some (it t.mask (t.probeStart (knd.hash k)) m').j→∀ c,(k,c)∈xs→es[i]?≠some (ent knd (k,c)):=fun m' hm'=>by
      by_cases h:m'<m
      · exact hbf m' h
      · obtain ⟨i,e1,e2⟩:=g2 (m'-m) (by omega)
        rw [show m+(m'-m)=m' by omega] at e1
        have e1':t.place.toList[i]?=some (it t.mask (t.probeStart (knd.hash k)) m').j:=by simpa using e1
        refine ⟨List.mem_of_getElem? e1',fun i' hi' c hc z=>?_⟩
        have e3:=below_at T.ok.up e1
        have e4:=below_at T.ok.up hi'
        rw [e3] at e4
        subst e4
        rw [z] at e2
        exact e2 rfl
    rcases g3 with ⟨rfl,g4⟩ | ⟨i,p1,p2,rfl⟩
    · dsimp only
      refine wpAny_pure (hout (fun c hc=>?_) (m+m1) g4 fun m' hm'=>(hbf2 m' hm').1)
      have h1:ent knd (k,c)∈es.toList:=T.perm.mem_iff.mpr (List.mem_map_of_mem hc)
      obtain ⟨i,hi⟩:=List.mem_iff_getElem?.mp h1
      have hil:=(List.getElem?_eq_some_iff.mp hi).1
      have hpl:i<t.place.toList.length:=by have:=T.psize;simp at hil ⊢;omega
      have hz:(t.place.toList[i],knd.hash k)∈t.place.toList.zip (es.toList.map (·.1)):=by
        refine List.mem_of_getElem? (i:=i) ?_
        rw [List.getElem?_zip_eq_some]
        exact ⟨List.getElem?_eq_getElem hpl,by rw [List.getElem?_map,hi];rfl⟩
      obtain ⟨m0,a1,a2⟩:=T.ok.ch _ hz
      simp only at a1 a2
      rcases Nat.lt_trichotomy m0 (m+m1) with hlt | heq | hgt
      · refine (hbf2 m0 hlt).2 i ?_ c hc (by simpa using hi)
        rw [a1]
        simpa using List.getElem?_eq_getElem hpl
      · rw [← heq,a1] at g4
        exact g4 (List.getElem_mem hpl)
      · exact g4 (a2 _ hgt)
    · dsimp only
      have hil:i<es.size:=by have:=(Array.getElem?_eq_some_iff.mp p1).1;rw [T.psize] at this;exact this
      obtain ⟨e,he⟩:∃ e,es[i]?=some e:=⟨es[i],Array.getElem?_eq_getElem hil⟩
      obtain ⟨x,hx,rfl⟩:=T.mem he
      have hxk:=his x hx
      have sj:∀ m2,it t.mask (it t.mask (t.probeStart (knd.hash k)) m) m2=it t.mask (t.probeStart (knd.hash k)) (m+m2):=fun m2=>(it_add ..).symm
      have cont:wpAny (model prog w) A (do
          let some (_,y):=es[i]? | unsupported "internal:set-entry"
          let equal ← holding [y] (eqBool y (.ref b))
          let (es',_,t') ← setState a
          if adding&&equal then return .there none
          let some same:=t'.sameMemory t.moves t.mask | unsupported "set.changed-during-lookup:is-the-new-block-at-the-old-address"
          let still ← match (if same then t'.slot (it t.mask (t.probeStart (knd.hash k)) (m+m1)).j else .empty) with
            | .live i'=>match es'[i']? with
              | some (_,y')=>do pure (if ← isSame y' y then some i' else none)
              | none=>pure none
            | _=>pure none
          match still with
          | none=>rule "set.search.anew";setSearchFrom a (.ref b) (knd.hash k) adding fuel none
          | some i'=>if equal then return .there (some i') else setSearchFrom a (.ref b) (knd.hash k) adding fuel (some (it t.mask (t.probeStart (knd.hash k)) (m+(m1+1))))) Q E s:=by
        rw [he]
        dsimp only [ent]
        refine wpAny_bind (wpAny_holding (knd.eqBool hu hxk hkey ?_))
        refine wpAny_bind (wpAny_setState_of ho hd f ?_)
        dsimp only
        by_cases hkk:x.1=k
        · rw [decide_eq_true hkk]
          have hin':=hin x.2 (by rw [← hkk];exact hx)
          cases hadd:adding with
          | true=>
            simp only [Bool.and_self,if_true]
            have:=hin' 0
            rw [hadd] at this
            exact wpAny_pure this
          | false=>
            simp only [Bool.false_and,Bool.false_eq_true,if_false]
            have hsm:t.sameMemory t.moves t.mask=some true:=by unfold SetTable.sameMemory;simp
            rw [hsm]
            dsimp only
            simp only [if_true]
            rw [slot_live T.ok.up p1]
            dsimp only
            rw [he]
            dsimp only [ent]
            refine wpAny_bind (same_ref (wpAny_bind (wpAny_pure ?_)))
            simp only [if_true]
            have:=hin' i
            rw [hadd] at this
            exact wpAny_pure this
        · rw [decide_eq_false hkk]
          simp only [Bool.and_false,Bool.false_eq_true,if_false]
          have hsm:t.sameMemory t.moves t.mask=some true:=by unfold SetTable.sameMemory;simp
          rw [hsm]
          dsimp only
          simp only [if_true]
          rw [slot_live T.ok.up p1]
          dsimp only
          rw [he]
          dsimp only [ent]
          refine wpAny_bind (same_ref (wpAny_bind (wpAny_pure ?_)))
          simp only [if_true]
          refine search_ok S hu ho hd T his hkey hin hout mf hmf hfr fuel (m+(m1+1)) _ rfl (fun m' hm'=>?_) (by
            have hne:m+m1≠mf:=fun z=>hfr (by
              rw [← z]
              have:t.place.toList[i]?=some (it t.mask (t.probeStart (knd.hash k)) (m+m1)).j:=by simpa using p1
              exact List.mem_of_getElem? this)
            have hle2:m+m1≤mf:=by
              rcases Nat.lt_or_ge mf (m+m1) with h | h
              · exact absurd (hbf2 mf h).1 hfr
              · exact h
            omega)
          by_cases h:m'<m+m1
          · exact hbf2 m' h
          · have:m'=m+m1:=by omega
            subst this
            have p1':t.place.toList[i]?=some (it t.mask (t.probeStart (knd.hash k)) (m+m1)).j:=by simpa using p1
            refine ⟨List.mem_of_getElem? p1',fun i' hi' c hc z=>?_⟩
            have e3:=below_at T.ok.up p1
            have e4:=below_at T.ok.up hi'
            rw [e3] at e4
            subst e4
            rw [he] at z
            have z2:x.2=c:=by
              have:=Option.some.inj z
              simp only [ent,Prod.mk.injEq,Value.ref.injEq] at this
              exact this.2
            have hc':=his _ hc
            simp only at hc'
            rw [← z2] at hc'
            exact hkk (knd.inj hxk hc')
      by_cases hled:t.led=true
      · rw [if_neg (by simp [hled])]
        first | exact cont | exact wpAny_bind (wpAny_pure cont)
      · rw [if_pos (by simpa using hled)]
        refine wpAny_bind (seen_no S hkey (fun v hv=>?_) ?_)
        · obtain ⟨e,he',rfl⟩:=List.mem_map.mp hv
          have he2:e∈es.toList:=by
            have:=(Array.mem_filter.mp (Array.mem_toList_iff.mp he')).1
            exact Array.mem_toList_iff.mpr this
          obtain ⟨y,hy,rfl⟩:=List.mem_map.mp (T.perm.mem_iff.mp he2)
          exact ⟨y.1,y.2,rfl,his y hy⟩
        · simp only [Bool.false_eq_true,if_false]
          first | exact cont | exact wpAny_bind (wpAny_pure cont)
end
end St
namespace St
open PySem
section
variable {prog:Program} {w:World} {K:Type} [DecidableEq K] {knd:HeapKind prog w K} {A:Around} {E:Value→Shared→Prop} {s:Shared}
def SetAt (knd:HeapKind prog w K) (a:Addr) (xs:List (K×Addr)) (h:Heap):Prop:=
  ∃ o es ep t,h.get? a=some o∧o.ExactSet∧o.data=.set es ep t∧Tab knd es t xs∧(xs.map (·.1)).Nodup
theorem SetAt.typeIs {a:Addr} {xs:List (K×Addr)} (h:SetAt knd a xs s.heap):s.TypeIs (.ref a) "set":=let ⟨o,_,_,_,ho,hc,_⟩:=h;⟨o,ho,hc.1⟩
theorem turns_lt {m:Nat} (h:m∈masks):10*SetTable.turns m<100000:=by
  have:=(mask_le h).2.1
  unfold SetTable.turns;omega
theorem find_ok (S:SK knd) (hu:knd.room A) {a b:Addr} {k:K} {xs:List (K×Addr)} (hS:SetAt knd a xs s.heap) (his:∀ x∈xs,knd.is s.heap x.1 x.2) (hkey:knd.is s.heap k b) {Q:Option Nat→Shared→Prop}
    (h:∀ r:Option Nat,r.isSome=decide (k∈xs.map (·.1))→Q r s):wpAny (model prog w) A (setFind a (.ref b) (knd.hash k)) Q E s:=by
  obtain ⟨o,es,ep,t,ho,_,hd,T,hn⟩:=hS
  unfold setFind setFindIn
  refine wpAny_bind (wpAny_setState_of ho hd T.fits ?_)
  dsimp only
  rw [if_neg (by simp [byScan,Value.scannable])]
  obtain ⟨mf,m1,m2⟩:=T.ok.soon (knd.hash k)
  have ht:=turns_lt T.msk
  unfold setSearch
  refine wpAny_bind (search_ok S hu ho hd T his hkey (adding:=false) (fun c hc i=>?_) (fun hc m _ _=>?_) mf m1 m2 100000 0 none rfl (fun m' hm'=>by omega) (by omega))
  · simp only [Bool.false_eq_true,if_false]
    refine wpAny_pure (h _ ?_)
    rw [decide_eq_true (List.mem_map.mpr ⟨(k,c),hc,rfl⟩)];rfl
  · dsimp only
    refine wpAny_pure (h _ ?_)
    rw [decide_eq_false]
    · rfl
    · intro hm
      obtain ⟨x,hx,e⟩:=List.mem_map.mp hm
      obtain ⟨y,c⟩:=x
      simp only at e
      subst e
      exact hc c hx
theorem in_ok (S:SK knd) (hu:knd.room A.in1) {a b:Addr} {k:K} {xs:List (K×Addr)} (hS:SetAt knd a xs s.heap) (his:∀ x∈xs,knd.is s.heap x.1 x.2) (hkey:knd.is s.heap k b) {Q:Value→Shared→Prop}
    (h:∀ tk,Q (.bool (decide (k∈xs.map (·.1)))) { s with toks:=tk }):wpAny (model prog w) A (compareOp .In (.ref b) (.ref a)) Q E s:=by
  show wpAny _ _ (do return .bool (← contains (.ref a) (.ref b))) Q E s
  refine wpAny_bind ?_
  unfold contains
  try with_reducible refine wpAny_holding ?_
  refine wpAny_bind (wpAny_specialOf hS.typeIs F.slot_set_contains.lookup ?_)
  show wpAny _ _ (if (some (Value.builtin "set.__contains__")==some Value.none)=true then _ else _) _ E s
  rw [if_neg (by rw [beq_builtin_none];exact Bool.false_ne_true)]
  refine wpAny_bind (wpAny_callSpecialUnlessNone?_slot (name:=Str.ofString "__contains__") hS.typeIs F.slot_set_contains
    (wpAny_call_entry F.slot_set_contains hS.typeIs entry_set_contains ?_ (F.args_set_contains_2 _ _)))
  unfold Builtin.«frozenset.__contains__» Builtin.Frozenset.oneOther
  simp only [List.isEmpty_nil,bind_assoc]
  unfold Builtin.Frozenset.addrOf Builtin.Frozenset.withSetAsKey setContains
  refine wpAny_bind (wpAny_pure ?_)
  try dsimp only
  refine wpAny_bind (wpAny_pure ?_)
  try dsimp only
  refine wpAny_bind (wpAny_tryCatch ?_)
  refine wpAny_holding ?_
  refine wpAny_bind (knd.pyHash hu hkey ?_)
  refine wpAny_bind (find_ok (s:={ s with toks:=s.toks+knd.draws k }) S hu hS his hkey fun r hr=>?_)
  refine wpAny_pure ?_
  show wpAny _ _ (ret (Value.bool r.isSome)) _ _ _
  rw [hr]
  exact wpAny_pure ⟨_,rfl,wpAny_truthy_bool (wpAny_pure (h _))⟩
theorem notIn_ok (S:SK knd) (hu:knd.room A.in1) {a b:Addr} {k:K} {xs:List (K×Addr)} (hS:SetAt knd a xs s.heap) (his:∀ x∈xs,knd.is s.heap x.1 x.2) (hkey:knd.is s.heap k b) {Q:Value→Shared→Prop}
    (h:∀ tk,Q (.bool (!decide (k∈xs.map (·.1)))) { s with toks:=tk }):wpAny (model prog w) A (compareOp .NotIn (.ref b) (.ref a)) Q E s:=by
  show wpAny _ _ (do return .bool (!(← contains (.ref a) (.ref b)))) Q E s
  refine wpAny_bind ?_
  unfold contains
  try with_reducible refine wpAny_holding ?_
  refine wpAny_bind (wpAny_specialOf hS.typeIs F.slot_set_contains.lookup ?_)
  show wpAny _ _ (if (some (Value.builtin "set.__contains__")==some Value.none)=true then _ else _) _ E s
  rw [if_neg (by rw [beq_builtin_none];exact Bool.false_ne_true)]
  refine wpAny_bind (wpAny_callSpecialUnlessNone?_slot (name:=Str.ofString "__contains__") hS.typeIs F.slot_set_contains
    (wpAny_call_entry F.slot_set_contains hS.typeIs entry_set_contains ?_ (F.args_set_contains_2 _ _)))
  unfold Builtin.«frozenset.__contains__» Builtin.Frozenset.oneOther
  simp only [List.isEmpty_nil,bind_assoc]
  unfold Builtin.Frozenset.addrOf Builtin.Frozenset.withSetAsKey setContains
  refine wpAny_bind (wpAny_pure ?_)
  try dsimp only
  refine wpAny_bind (wpAny_pure ?_)
  try dsimp only
  refine wpAny_bind (wpAny_tryCatch ?_)
  refine wpAny_holding ?_
  refine wpAny_bind (knd.pyHash hu hkey ?_)
  refine wpAny_bind (find_ok (s:={ s with toks:=s.toks+knd.draws k }) S hu hS his hkey fun r hr=>?_)
  refine wpAny_pure ?_
  show wpAny _ _ (ret (Value.bool r.isSome)) _ _ _
  rw [hr]
  exact wpAny_pure ⟨_,rfl,wpAny_truthy_bool (wpAny_pure (h _))⟩
theorem len_ok {a:Addr} {xs:List (K×Addr)} (hS:SetAt knd a xs s.heap) (hfit:(xs.length:Int)<2 ^ 63) {Q:Value→Shared→Prop} (h:∀ t tk,Q (.int xs.length t) { s with toks:=tk }) :
    wpAny (model prog w) A (call (.builtin "len") [.ref a]) Q E s:=by
  obtain ⟨o,es,ep,t,ho,hex,hd,T,_⟩:=hS
  refine call_len_set ho hex hd T.fits (by rw [T.size];exact hfit) ?_
  rw [T.size]
  exact h _ _
theorem store_at {h:Heap} {a:Addr} {o:Obj} {es:Array (Int×Value)} {ep:Nat} {t:SetTable} (ho:h.get? a=some o) (hd:o.data=.set es ep t) (es':Array (Int×Value)) (t':SetTable) :
    (h.update a (Obj.putSet es' t')).get? a=some { o with data:=.set es' (ep+1) t' }:=by
  have:=Heap.get?_update_self (Obj.putSet es' t') ho (by rw [putSet_of es' t' hd];rfl)
  rw [putSet_of es' t' hd] at this;exact this
theorem size_small {n:Nat} (h:n≤5000):n≤sizeLine:=by rw [sizeLine_eq];omega
theorem next_mask {m n:Nat} (hm:m∈masks) (h1:n*5<m*3) (h2:m*3≤(n+1)*5) (h3:n+1≤4914):∃ m',m'∈masks∧SetTable.sizeAbove (SetTable.grown (n+1))-1=m'∧SetTable.sizeAbove (SetTable.grown (n+1))≤8192∧(n+1)*5<m'*3∧n+1≤m':=by
  have key:∀ n0 m',n=n0→m'∈masks∧SetTable.sizeAbove (SetTable.grown (n0+1))-1=m'∧SetTable.sizeAbove (SetTable.grown (n0+1))≤8192∧(n0+1)*5<m'*3∧n0+1≤m'→∃ m',m'∈masks∧SetTable.sizeAbove (SetTable.grown (n+1))-1=m'∧SetTable.sizeAbove (SetTable.grown (n+1))≤8192∧(n+1)*5<m'*3∧n+1≤m':=fun n0 m' e h=>⟨m',by subst e;exact h⟩
  unfold masks at hm
  simp only [List.mem_cons,List.not_mem_nil,or_false] at hm
  rcases hm with rfl | rfl | rfl | rfl | rfl | rfl
  · exact key 4 31 (by omega) (by decide)
  · exact key 18 127 (by omega) (by decide)
  · exact key 76 511 (by omega) (by decide)
  · exact key 306 2047 (by omega) (by decide)
  · exact key 1228 8191 (by omega) (by decide)
  · omega
theorem mask_pow {m:Nat} (h:m∈masks):∃ k,m+1=2 ^ k:=by
  unfold masks at h
  simp only [List.mem_cons,List.not_mem_nil,or_false] at h
  rcases h with rfl | rfl | rfl | rfl | rfl | rfl
  · exact ⟨3,rfl⟩
  · exact ⟨5,rfl⟩
  · exact ⟨7,rfl⟩
  · exact ⟨9,rfl⟩
  · exact ⟨11,rfl⟩
  · exact ⟨13,rfl⟩
theorem relay_ok {a:Addr} {o:Obj} {es:Array (Int×Value)} {ep:Nat} {t:SetTable} {l:List (Int×Value)} (ho:s.heap.get? a=some o) (hd:o.data=.set es ep t) (hp:es.toList.Perm l) (ok:Ok t (es.toList.map (·.1)))
    {n:Nat} (hn:es.size=n+1) (hm:t.mask∈masks) (h1:n*5<t.mask*3) (h2:t.mask*3≤(n+1)*5) (h3:n+1≤4914) {Q:Unit→Shared→Prop}
    (h:∀ es' t',es'.toList.Perm l→Ok t' (es'.toList.map (·.1))→t'.mask∈masks→t'.place.size*5<t'.mask*3→Q () { s with heap:=s.heap.update a (Obj.putSet es' t') }) :
    wpAny (model prog w) A (setRelay a (SetTable.grown (n+1))) Q E s:=by
  obtain ⟨m',k1,k2,k3,k4,k5⟩:=next_mask hm h1 h2 h3
  have hsz:t.place.size=es.size:=by have:=ok.len;simpa using this
  obtain ⟨t',order,es',g1,g2,g3,g4,g5,g6,g7,g8⟩:=laid_ok (mask_pow k1) t.finger (t.movedTo (SetTable.sizeAbove (SetTable.grown (n+1))-1)) t.led t.plain es (by omega)
  have hr:t.relaid (es.map (·.1)) (SetTable.grown (n+1))=some (t',order):=by
    unfold SetTable.relaid
    rw [← g1,k2]
  unfold setRelay
  refine wpAny_bind (wpAny_setState_of ho hd (fits_of ok hsz) ?_)
  dsimp only
  rw [if_neg (by have:=sizeLine_eq;omega)]
  refine wpAny_bind ?_
  show wpAny _ _ (do
    let some (t,order):=t.relaid (es.map (·.1)) (SetTable.grown (n+1)) | unsupported "internal:set-table-without-room"
    let es':=order.filterMap (es[·]?)
    if es'.size != es.size then unsupported "internal:set-table-lost-an-element"
    pure (es',t)) _ _ _
  rw [hr]
  dsimp only
  rw [g2,if_neg (by simp [g3])]
  refine wpAny_pure ?_
  dsimp only
  exact wpAny_storeSet_of ho hd (h es' t' (g4.trans hp) g8 (by rw [g5];exact k1) (by rw [g5,g7,hn];exact k4)) (by rw [g3,hn];exact size_small (by omega))
theorem addH_ok (S:SK knd) (hu:knd.room A) {a b:Addr} {k:K} {xs:List (K×Addr)} (hS:SetAt knd a xs s.heap) (his:∀ x∈xs,knd.is s.heap x.1 x.2) (hkey:knd.is s.heap k b) (hl:xs.length+1≤4914) {Q:Bool→Shared→Prop}
    (hin:k∈xs.map (·.1)→Q false s) (hout:k∉xs.map (·.1)→∀ h',Heap.SameBut a s.heap h'→SetAt knd a (xs++[(k,b)]) h'→Q true { s with heap:=h' }) :
    wpAny (model prog w) A (setAddHashed a (.ref b) (knd.hash k)) Q E s:=by
  obtain ⟨o,es,ep,t,ho,hex,hd,T,hn⟩:=hS
  unfold setAddHashed
  refine wpAny_holding ?_
  unfold setAddHashedIn
  refine wpAny_bind (wpAny_setState_of ho hd T.fits ?_)
  dsimp only
  rw [if_neg (by simp [byScan,Value.scannable])]
  obtain ⟨mf,m1,m2⟩:=T.ok.soon (knd.hash k)
  have ht:=turns_lt T.msk
  unfold setSearch
  refine wpAny_bind (search_ok S hu ho hd T his hkey (adding:=true) (fun c hc i=>?_) (fun hc m hm1 hm2=>?_) mf m1 m2 100000 0 none rfl (fun m' hm'=>by omega) (by omega))
  · simp only [if_true]
    exact wpAny_pure (hin (List.mem_map.mpr ⟨(k,c),hc,rfl⟩))
  · dsimp only
    have hk:k∉xs.map (·.1):=fun hm=>by
      obtain ⟨x,hx,e⟩:=List.mem_map.mp hm
      obtain ⟨y,c⟩:=x
      simp only at e
      subst e
      exact hc c hx
    refine wpAny_bind (wpAny_setState_of ho hd T.fits ?_)
    dsimp only
    have hmk:=mask_le T.msk
    have hnf:=T.nf
    have hps:=T.psize
    have hes:=T.size
    generalize hj:(it t.mask (t.probeStart (knd.hash k)) m).j=j at *
    have rest:∀ pl:Bool,wpAny (model prog w) A (do
        storeSet a (SetTable.insertAt es (t.put j).2 (knd.hash k,.ref b)) { (t.put j).1 with plain:=pl }
        if ({ (t.put j).1 with plain:=pl }:SetTable).tooFull then setRelay a (SetTable.grown (es.size+1))
        return true) Q E s:=fun pl=>by
      obtain ⟨p,q1,q2,q3⟩:=T.ok.put (knd.hash k) m (by rw [hj];exact hm1) hm2 (by omega) pl
      rw [hj] at q1 q3
      rw [q1]
      have i1:=SetTable.toList_insertAt es p (knd.hash k,Value.ref b)
      have i2:(SetTable.insertAt es p (knd.hash k,Value.ref b)).toList.map (·.1)=(es.toList.map (·.1)).take p++knd.hash k::(es.toList.map (·.1)).drop p:=by
        rw [i1,List.map_append,List.map_cons,List.map_take,List.map_drop]
      have i3:(SetTable.insertAt es p (knd.hash k,Value.ref b)).toList.Perm ((xs++[(k,b)]).map (ent knd)):=by
        have e1:=SetTable.insertAt_perm es p (knd.hash k,Value.ref b)
        rw [Array.toList_push] at e1
        refine e1.trans ?_
        rw [List.map_append]
        exact T.perm.append_right _
      have i4:(SetTable.insertAt es p (knd.hash k,Value.ref b)).size=es.size+1:=by
        rw [← Array.length_toList,i1,len_cut];simp
      rw [← i2] at q3
      have hnd:((xs++[(k,b)]).map (·.1)).Nodup:=by
        rw [List.map_append]
        refine List.nodup_append.mpr ⟨hn,by simp,fun x hx y hy=>?_⟩
        rw [List.map_cons,List.map_nil,List.mem_singleton] at hy
        subst hy
        rintro rfl
        exact hk hx
      have hst:=store_at ho hd (SetTable.insertAt es p (knd.hash k,Value.ref b)) { (t.put j).1 with plain:=pl }
      have hsb:=Heap.SameBut.update s.heap a (Obj.putSet (SetTable.insertAt es p (knd.hash k,Value.ref b)) { (t.put j).1 with plain:=pl })
      have hmask:({ (t.put j).1 with plain:=pl }:SetTable).mask=t.mask:=rfl
      have hplz:({ (t.put j).1 with plain:=pl }:SetTable).place.size=es.size+1:=by
        have:=q3.len
        rw [List.length_map,Array.length_toList,i4] at this
        exact this
      refine wpAny_bind (wpAny_storeSet_of ho hd ?_ (by rw [i4];exact size_small (by omega)))
      by_cases hf:({ (t.put j).1 with plain:=pl }:SetTable).tooFull=true
      · rw [if_pos hf]
        have hf':t.mask*3≤(es.size+1)*5:=by
          unfold SetTable.tooFull SetTable.fill at hf
          rw [q3.dum] at hf
          rw [hplz,hmask] at hf
          simpa using hf
        refine wpAny_bind (relay_ok (s:={ s with heap:=s.heap.update a (Obj.putSet (SetTable.insertAt es p (knd.hash k,Value.ref b)) { (t.put j).1 with plain:=pl }) }) hst rfl i3 q3 (n:=es.size) i4 T.msk (by rw [hmask];omega) (by rw [hmask];exact hf') (by omega) fun es' t' r1 r2 r3 r4=>?_)
        refine wpAny_pure (hout hk _ (hsb.trans (Heap.SameBut.update _ a _)) ?_)
        exact ⟨_,es',_,t',store_at hst rfl es' t',hex,rfl,⟨r1,r2,r3,r4⟩,hnd⟩
      · rw [if_neg hf]
        first
          | refine wpAny_pure (hout hk _ hsb ?_)
          | refine wpAny_bind (wpAny_pure (wpAny_pure (hout hk _ hsb ?_)))
        refine ⟨_,_,_,_,hst,hex,rfl,⟨i3,q3,T.msk,?_⟩,hnd⟩
        unfold SetTable.tooFull SetTable.fill at hf
        rw [q3.dum] at hf
        rw [hplz,hmask] at hf ⊢
        simpa using hf
    have pl1:({ (t.put j).1 with plain:=t.plain }:SetTable)=(t.put j).1:=rfl
    by_cases hpl:t.plain=true
    · rw [if_pos (show (t.put j).1.plain=true from hpl)]
      refine wpAny_bind (S.hbv hkey fun bv=>?_)
      cases bv with
      | true=>
        have:=rest t.plain
        rw [pl1] at this
        simpa using this
      | false=>
        have:=rest false
        simpa using this
    · rw [if_neg (show ¬ (t.put j).1.plain=true from hpl)]
      refine wpAny_bind (wpAny_pure ?_)
      have:=rest t.plain
      rw [pl1] at this
      simpa using this
end
end St
namespace L2
open PySem PySem.Spec PyProof.Rows
abbrev Key:=Sum Int Str
def keyIs:Key→Value→Bool
  | .inl k,v=>Value.isInt k v
  | .inr x,v=>Value.isStrOf x v
def keyH (w:World):Key→Int
  | .inl k=>hashInt k
  | .inr x=>hashStr w x
theorem keyIs_shape:∀ {k:Key} {v:Value},keyIs k v=true→(∃ i t,k=Sum.inl i∧v=Value.int i t)∨(∃ x t,k=Sum.inr x∧v=Value.str x t)
  | .inl i,v,h=>by
    obtain ⟨t,e⟩:=Value.isInt_shape (k:=i) (v:=v) h
    exact .inl ⟨i,t,rfl,e⟩
  | .inr x,v,h=>by
    obtain ⟨t,e⟩:=Value.isStrOf_shape (x:=x) (v:=v) h
    exact .inr ⟨x,t,rfl,e⟩
theorem keyIs_int (i:Int) (t:Tok):keyIs (.inl i) (.int i t)=true:=by simp [keyIs,Value.isInt]
theorem keyIs_str (x:Str) (t:Tok):keyIs (.inr x) (.str x t)=true:=by simp [keyIs,Value.isStrOf]
theorem key_ll (a b:Int):decide ((Sum.inl a:Key)=Sum.inl b)=(a==b):=by
  by_cases e:a=b
  · subst e;simp
  · have h:¬ (Sum.inl a:Key)=Sum.inl b:=fun q=>e (Sum.inl.inj q)
    rw [decide_eq_false h]
    exact (beq_eq_false_iff_ne.mpr e).symm
theorem key_rr (a b:Str):decide ((Sum.inr a:Key)=Sum.inr b)=decide (a=b):=by
  by_cases e:a=b
  · subst e;simp
  · have h:¬ (Sum.inr a:Key)=Sum.inr b:=fun q=>e (Sum.inr.inj q)
    rw [decide_eq_false h,decide_eq_false e]
theorem key_lr (a:Int) (b:Str):decide ((Sum.inl a:Key)=Sum.inr b)=false:=decide_eq_false (fun q=>nomatch q)
theorem key_rl (a:Str) (b:Int):decide ((Sum.inr a:Key)=Sum.inl b)=false:=decide_eq_false (fun q=>nomatch q)
def mixKind (prog:Program) (w:World):PySem.KeyKind prog w Key where
  is:=keyIs
  hash:=keyH w
  inj:=fun v a b ha hb=>by
    rcases keyIs_shape ha with ⟨i,t,rfl,rfl⟩ | ⟨x,t,rfl,rfl⟩
    · rcases keyIs_shape hb with ⟨j,u,rfl,e⟩ | ⟨y,u,rfl,e⟩
      · injection e with e1 _;rw [e1]
      · exact nomatch e
    · rcases keyIs_shape hb with ⟨j,u,rfl,e⟩ | ⟨y,u,rfl,e⟩
      · exact nomatch e
      · injection e with e1 _;rw [e1]
  byValue:=fun k v h=>by
    rcases keyIs_shape h with ⟨i,t,rfl,rfl⟩ | ⟨x,t,rfl,rfl⟩<;>rfl
  pyHash:=fun hv h=>by
    rcases keyIs_shape hv with ⟨i,t,rfl,rfl⟩ | ⟨x,t,rfl,rfl⟩
    · exact wpAny_pyHash_int h
    · exact wpAny_pyHash_str h
  eqBool:=fun hu hv h=>by
    rcases keyIs_shape hu with ⟨i,t,rfl,rfl⟩ | ⟨x,t,rfl,rfl⟩
    · rcases keyIs_shape hv with ⟨j,u,rfl,rfl⟩ | ⟨y,u,rfl,rfl⟩
      · rw [key_ll] at h;exact wpAny_eqBool_int h
      · rw [key_lr] at h;exact SeqAt.EqAt.int_str i t y u _ _ _ _ h
    · rcases keyIs_shape hv with ⟨j,u,rfl,rfl⟩ | ⟨y,u,rfl,rfl⟩
      · rw [key_rl] at h;exact SeqAt.EqAt.str_int x t j u _ _ _ _ h
      · rw [key_rr] at h;exact wpAny_eqBool_str h
  «strs»:=fun k x t v h=>by
    rcases keyIs_shape h with ⟨i,u,rfl,e⟩ | ⟨y,u,rfl,e⟩
    · exact nomatch e
    · injection e with e1 _
      subst e1
      cases v<;>rfl
theorem mixKind_int (prog:Program) (w:World) (i:Int) (t:Tok):(mixKind prog w).is (.inl i) (.int i t)=true:=keyIs_int i t
theorem mixKind_str (prog:Program) (w:World) (x:Str) (t:Tok):(mixKind prog w).is (.inr x) (.str x t)=true:=keyIs_str x t
end L2
namespace L2
open PySem PySem.Spec PyProof.Rows
inductive V where
  | non | bl (b:Bool) | int (i:Int) | str (x:Str) | byt (b:Array UInt8) | flt (b:UInt64) | ref (a:Addr) | ty (n:String)
  deriving DecidableEq
def RelV:V→Value→Prop
  | .non,u=>u=Value.none
  | .bl b,u=>u=Value.bool b
  | .int i,u=>∃ t,u=Value.int i t
  | .str x,u=>∃ t,u=Value.str x t
  | .byt b,u=>∃ t,u=Value.bytes b t
  | .flt b,u=>∃ t,u=Value.float b t
  | .ref a,u=>u=Value.ref a
  | .ty n,u=>u=Value.type n
abbrev Vals:List V→List Value→Prop:=Paired RelV
theorem Vals.length {xs:List V} {us:List Value} (r:Vals xs us):xs.length=us.length:=Paired.length r
theorem Vals.get:∀ {xs:List V} {us:List Value} {i:Nat} {x:V},Vals xs us→xs[i]?=some x→∃ u,us[i]?=some u∧RelV x u
  | _,_,_,_,.nil,e=>by simp at e
  | _,_,0,_,.cons r _,e=>by simp at e;subst e;exact ⟨_,rfl,r⟩
  | _,_,i+1,x,.cons _ t,e=>by
    obtain ⟨u,h1,h2⟩:=Vals.get (i:=i) (x:=x) t (by simpa using e)
    exact ⟨u,by simpa using h1,h2⟩
theorem Vals.append:∀ {xs ys:List V} {us ws:List Value},Vals xs us→Vals ys ws→Vals (xs++ys) (us++ws)
  | _,_,_,_,.nil,s=>s
  | _,_,_,_,.cons r t,s=>.cons r (Vals.append t s)
theorem Vals.take:∀ {xs:List V} {us:List Value} (n:Nat),Vals xs us→Vals (xs.take n) (us.take n)
  | _,_,0,_=>.nil
  | _,_,_+1,.nil=>.nil
  | _,_,n+1,.cons r t=>.cons r (Vals.take n t)
theorem Vals.drop:∀ {xs:List V} {us:List Value} (n:Nat),Vals xs us→Vals (xs.drop n) (us.drop n)
  | _,_,0,r=>r
  | _,_,_+1,.nil=>.nil
  | _,_,n+1,.cons _ t=>Vals.drop n t
def RelO:Option V→Option Value→Prop
  | some v,some u=>RelV v u
  | none,none=>True
  | _,_=>False
def KV {κ:Type}:List (κ×V)→List (κ×Value)→Prop:=Paired fun (p:κ×V) (q:κ×Value)=>p.1=q.1∧RelV p.2 q.2
def kV:Key→V
  | .inl i=>.int i
  | .inr x=>.str x
inductive HO where
    | lst (xs:List V)
    | tup (xs:List V)
    | dK (kvs:List (Key×V)) | dT (kvs:List (List Key×V))
    | set (S:Int→Bool) (n:Nat)
    | ins (C dx:Addr) (fs:List (Str×V))
    | own (x:Addr)
    | xd (fs:List (Str×V))
    | met (f x:Addr)
    | rng (lo hi:Int)
    | frz (o:Obj) (u:HO)
    | tbl (ps:Array Value)
    | ext (φ:Heap→Prop)
abbrev Hp:=Addr→Option HO
def upd (H:Hp) (a:Addr) (o:HO):Hp:=fun b=>if b=a then some o else H b
theorem upd_same {H:Hp} {a:Addr} {o:HO}:upd H a o a=some o:=by unfold upd;rw [if_pos rfl]
theorem upd_ne {H:Hp} {a b:Addr} {o:HO} (h:b≠a):upd H a o b=H b:=by unfold upd;rw [if_neg h]
theorem ne_of_none {H:Hp} {a b:Addr} {o:HO} (h:H a=some o) (h':H b=none):a≠b:=by
  intro e;subst e;rw [h] at h';cases h'
section
variable (P:Program) (w:World)
def ObjOk (H:Hp) (h:Heap) (a:Addr):HO→Prop
  | .lst xs=>xs.length≤sizeLine∧∃ (its:List Value) (n:Nat),Vals xs its∧h.get? a=some { cls:=.type "list",data:=.seq its.toArray n }
  | .tup xs=>xs.length≤sizeLine∧∃ its:List Value,Vals xs its∧IsTup h a its.toArray
  | .dK kvs=>kvs.length≤sizeLine∧(a==sysModules)=false∧∃ vs,KV kvs vs∧h.DictOf (mixKind P w) a vs
  | .dT kvs=>kvs.length≤sizeLine∧(a==sysModules)=false∧∃ xs:List (List Key×Addr×Value),
      Paired (fun (p:List Key×V) (q:List Key×Addr×Value)=>p.1=q.1∧H q.2.1=some (.tup (p.1.map kV))∧RelV p.2 q.2.2) kvs xs∧
      ∃ o es ep,h.get? a=some o∧o.ExactDict∧o.data=.dict es ep∧es.toList=xs.map (entryOfKey (tupleKind (mixKind P w)))∧(xs.map (·.1)).Nodup
  | .set S n=>h.SetOf (intKind P w) a S n
  | .ins C dx fs=>H dx=some (.own a)∧fs.length≤1000∧dx≠a∧h.get? a=some (PySem.W.instObj C dx)∧
      ∃ mA,h.Ns1 dx mA∧(∀ f,RelO (fs.lookup f) (mA f))∧PySem.Within mA (fs.map (·.1))
  | .own _=>∃ o,h.get? a=some o
  | .xd fs=>∃ mA,h.Ns1 a mA∧∀ f,RelO (fs.lookup f) (mA f)
  | .rng lo hi=>∃ t u v,h.get? a=some { cls:=.type "range",data:=.fields #[.int lo t,.int hi u,.int 1 v] }
  | .frz o u=>h.get? a=some o∧ObjOk H h a u
  | .tbl ps=>h.get? a=some { cls:=.none,data:=.fields ps }
  | .met f x=>h.get? a=some (PySem.W.methodObj (.ref f) (.ref x))
  | .ext φ=>φ h∧(∃ o,h.get? a=some o)∧∀ h1 h2:Heap,φ h1→(∀ o,h1.get? a=some o→h2.get? a=some o)→φ h2
def HOk (H:Hp) (h:Heap):Prop:=∀ a o,H a=some o→ObjOk P w H h a o
end
section
variable {P:Program} {w:World} {H H':Hp} {h h':Heap} {a:Addr} {o:HO}
theorem ObjOk.lt (x:ObjOk P w H h a o):a<h.objs.size:=by
  cases o with
  | lst xs=>obtain ⟨_,_,_,_,e⟩:=x;exact Heap.lt_size e
  | tup xs=>obtain ⟨_,_,_,p⟩:=x;exact p.lt
  | dK kvs=>obtain ⟨_,_,_,_,o,_,_,e,_⟩:=x;exact Heap.lt_size e
  | dT kvs=>obtain ⟨_,_,_,_,o,_,_,e,_⟩:=x;exact Heap.lt_size e
  | set S n=>obtain ⟨o,_,_,_,e,_⟩:=x;exact Heap.lt_size e
  | ins C dx fs=>obtain ⟨_,_,_,e,_⟩:=x;exact Heap.lt_size e
  | own y=>obtain ⟨_,e⟩:=x;exact Heap.lt_size e
  | xd fs=>obtain ⟨_,⟨_,_,_,e,_⟩,_⟩:=x;exact Heap.lt_size e
  | rng lo hi=>obtain ⟨_,_,_,e⟩:=x;exact Heap.lt_size e
  | frz ob u=>obtain ⟨e,_⟩:=x;exact Heap.lt_size e
  | tbl ps=>exact Heap.lt_size (show h.get? a=some _ from x)
  | met f y=>exact Heap.lt_size (show h.get? a=some _ from x)
  | ext φ=>obtain ⟨_,⟨_,e⟩,_⟩:=x;exact Heap.lt_size e
theorem Paired.mapP {α β:Type} {F G:α→β→Prop}:∀ {l₁:List α} {l₂:List β},Paired F l₁ l₂→(∀ a b,F a b→G a b)→Paired G l₁ l₂
  | _,_,.nil,_=>.nil
  | _,_,.cons r t,f=>.cons (f _ _ r) (Paired.mapP t f)
theorem ObjOk.stay (x:ObjOk P w H h a o) (k:∀ b u,(b=a∨H b=some (.own a))→h.get? b=some u→h'.get? b=some u)
    (ho:∀ b,H b=some (.own a)→H' b=some (.own a)) (ht:∀ b xs,H b=some (.tup xs)→H' b=some (.tup xs)):ObjOk P w H' h' a o:=by
  induction o with
  | lst xs=>obtain ⟨z,its,n,r,e⟩:=x;exact ⟨z,its,n,r,k _ _ (.inl rfl) e⟩
  | tup xs=>obtain ⟨z,its,r,ob,e,c⟩:=x;exact ⟨z,its,r,ob,k _ _ (.inl rfl) e,c⟩
  | dK kvs=>obtain ⟨z,y,vs,r,ob,es,ep,e,c⟩:=x;exact ⟨z,y,vs,r,ob,es,ep,k _ _ (.inl rfl) e,c⟩
  | dT kvs=>
    obtain ⟨z,y,xs,r,ob,es,ep,e,c⟩:=x
    exact ⟨z,y,xs,Paired.mapP r fun p q z=>⟨z.1,ht _ _ z.2.1,z.2.2⟩,ob,es,ep,k _ _ (.inl rfl) e,c⟩
  | set S n=>obtain ⟨ob,es,ep,t,e,c⟩:=x;exact ⟨ob,es,ep,t,k _ _ (.inl rfl) e,c⟩
  | ins C dx fs=>
    obtain ⟨d,z,ne,e,mA,⟨od,es,ep,e2,c⟩,r⟩:=x
    exact ⟨ho _ d,z,ne,k _ _ (.inl rfl) e,mA,⟨od,es,ep,k _ _ (.inr d) e2,c⟩,r⟩
  | own y=>obtain ⟨ob,e⟩:=x;exact ⟨ob,k _ _ (.inl rfl) e⟩
  | xd fs=>obtain ⟨mA,⟨od,es,ep,e,c⟩,r⟩:=x;exact ⟨mA,⟨od,es,ep,k _ _ (.inl rfl) e,c⟩,r⟩
  | rng lo hi=>obtain ⟨t,u,v,e⟩:=x;exact ⟨t,u,v,k _ _ (.inl rfl) e⟩
  | frz ob u ih=>obtain ⟨e,q⟩:=x;exact ⟨k _ _ (.inl rfl) e,ih q⟩
  | tbl ps=>
    have e:h.get? a=some { cls:=.none,data:=.fields ps }:=x
    show h'.get? a=some { cls:=.none,data:=.fields ps }
    exact k a _ (.inl rfl) e
  | met f y=>
    have e:h.get? a=some (PySem.W.methodObj (.ref f) (.ref y)):=x
    show h'.get? a=some (PySem.W.methodObj (.ref f) (.ref y))
    exact k a _ (.inl rfl) e
  | ext φ=>obtain ⟨p,⟨o,e⟩,st⟩:=x;exact ⟨st _ _ p fun o q=>k _ _ (.inl rfl) q,⟨o,k _ _ (.inl rfl) e⟩,st⟩
theorem HOk.lt (x:HOk P w H h) (e:H a=some o):a<h.objs.size:=(x a o e).lt
theorem HOk.fresh (x:HOk P w H h) (e:h.objs.size≤a):H a=none:=by
  cases q:H a with
  | none=>rfl
  | some u=>exact absurd (Nat.lt_of_lt_of_le (x.lt q) e) (Nat.lt_irrefl _)
theorem HOk.kept (x:HOk P w H h) (k:∀ b u,h.get? b=some u→h'.get? b=some u):HOk P w H h':=fun a o e=>
  (x a o e).stay (fun b u _ q=>k b u q) (fun _ q=>q) fun _ _ q=>q
theorem HOk.laid (x:HOk P w H h) (k:∀ b u,h.get? b=some u→h'.get? b=some u) (hp:h.objs.size≤a) (new:ObjOk P w (upd H a o) h' a o):HOk P w (upd H a o) h':=fun b u e=>by
  have hn:=x.fresh hp
  by_cases hb:b=a
  · subst hb;rw [upd_same] at e;cases e;exact new
  · rw [upd_ne hb] at e
    exact (x b u e).stay (fun c v _ q=>k c v q) (fun c q=>by rw [upd_ne (ne_of_none q hn)];exact q) fun c xs q=>by rw [upd_ne (ne_of_none q hn)];exact q
end
def Rd (H:Hp) (a:Addr) (u:HO):Prop:=H a=some u∨∃ o,H a=some (.frz o u)
theorem Rd.ok {P:Program} {w:World} {H:Hp} {h:Heap} {a:Addr} {u:HO} (r:Rd H a u) (x:HOk P w H h):ObjOk P w H h a u:=by
  rcases r with r | ⟨o,r⟩
  · exact x a u r
  · obtain ⟨_,q⟩:=x a _ r
    exact q
def Mut:Option HO→Prop
  | some (.lst _)=>True
  | some (.dK _)=>True
  | some (.dT _)=>True
  | some (.set _ _)=>True
  | some (.ins _ _ _)=>True
  | some (.ext _)=>True
  | _=>False
section
variable {P:Program} {w:World} {H:Hp} {h h':Heap} {x e:Addr} {o':HO}
theorem HOk.write (ok:HOk P w H h) (mu:Mut (H x)) (he:e=x∨H e=some (.own x)) (k:∀ b u,b≠e→h.get? b=some u→h'.get? b=some u) (heo:∃ u,h'.get? e=some u)
    (new:ObjOk P w (upd H x o') h' x o'):HOk P w (upd H x o') h':=fun b u q=>by
  have nown:∀ c y,H c=some (.own y)→c≠x:=fun c y r z=>by subst z;rw [r] at mu;exact mu
  have ntup:∀ c xs,H c=some (.tup xs)→c≠x:=fun c xs r z=>by subst z;rw [r] at mu;exact mu
  by_cases hb:b=x
  · subst hb;rw [upd_same] at q;cases q;exact new
  · rw [upd_ne hb] at q
    by_cases hbe:b=e
    · have q':H b=some (.own x):=by
        rcases he with z | z
        · exact absurd (hbe.trans z) hb
        · rw [hbe];exact z
      rw [q] at q';cases q'
      obtain ⟨v,hv⟩:=heo
      exact ⟨v,by rw [hbe];exact hv⟩
    · refine (ok b u q).stay (fun c v hc r=>k c v ?_ r) (fun c r=>by rw [upd_ne (nown c b r)];exact r) fun c xs r=>by rw [upd_ne (ntup c xs r)];exact r
      rcases hc with rfl | hc
      · exact hbe
      · rintro rfl
        rcases he with z | z
        · exact nown c b hc z
        · rw [hc] at z;cases z;exact hb rfl
end
structure Un (fs ex:List Addr) (H H':Hp) (h h':Heap):Prop where
  keep:∀ b o,h.get? b=some o→H b=none→b∉fs→b∉ex→h'.get? b=some o
  slot:∀ b o,h.get? b=some o→H b=none→b∈fs→b∉ex→∃ sl,h'.get? b=some { o with slots:=sl }
  free:∀ b o,h.get? b=some o→H b=none→b∉ex→H' b=none
  there:∀ b o,h.get? b=some o→b∉ex→∃ o',h'.get? b=some o'
  tups:∀ b xs,H b=some (.tup xs)→H' b=some (.tup xs)
  frzs:∀ b o u,H b=some (.frz o u)→H' b=some (.frz o u)
  tbls:∀ b ps,H b=some (.tbl ps)→∃ more,H' b=some (.tbl (ps++more))
section
variable {fs fs' ex ex':List Addr} {H H1 H2:Hp} {h h1 h2 h':Heap} {a x e:Addr} {o:HO}
theorem Un.any (u:Un fs ex H H1 h h1) {b:Addr} {ob:Obj} (q:h.get? b=some ob) (n:H b=none) (hx:b∉ex):∃ sl,h1.get? b=some { ob with slots:=sl }:=by
  by_cases hb:b∈fs
  · exact u.slot b ob q n hb hx
  · exact ⟨ob.slots,u.keep b ob q n hb hx⟩
theorem Un.trans (a:Un fs ex H H1 h h1) (b:Un fs ex H1 H2 h1 h2):Un fs ex H H2 h h2 where
  keep:=fun c ob q n hc hx=>b.keep c ob (a.keep c ob q n hc hx) (a.free c ob q n hx) hc hx
  slot:=fun c ob q n hc hx=>by
    obtain ⟨sl,e1⟩:=a.slot c ob q n hc hx
    obtain ⟨sl',e2⟩:=b.slot c _ e1 (a.free c ob q n hx) hc hx
    exact ⟨sl',e2⟩
  free:=fun c ob q n hx=>by
    obtain ⟨o',e1⟩:=a.there c ob q hx
    exact b.free c o' e1 (a.free c ob q n hx) hx
  there:=fun c ob q hx=>by
    obtain ⟨o',e1⟩:=a.there c ob q hx
    exact b.there c o' e1 hx
  tups:=fun c xs q=>b.tups c xs (a.tups c xs q)
  frzs:=fun c ob xs q=>b.frzs c ob xs (a.frzs c ob xs q)
  tbls:=fun c ps q=>by
    obtain ⟨m1,e1⟩:=a.tbls c ps q
    obtain ⟨m2,e2⟩:=b.tbls c _ e1
    exact ⟨m1++m2,by rw [e2,Array.append_assoc]⟩
theorem Un.kept (k:∀ b u,h.get? b=some u→h'.get? b=some u):Un fs ex H H h h':=
  ⟨fun b ob q _ _ _=>k b ob q,fun b ob q _ _ _=>⟨ob.slots,k b ob q⟩,fun _ _ _ n _=>n,fun b ob q _=>⟨ob,k b ob q⟩,fun _ _ q=>q,fun _ _ _ q=>q,fun _ ps q=>⟨#[],by rw [q];simp⟩⟩
theorem Un.refl:Un fs ex H H h h:=Un.kept fun _ _ q=>q
theorem Un.laid (k:∀ b u,h.get? b=some u→h'.get? b=some u) (hp:h.objs.size≤a) (hn:H a=none):Un fs ex H (upd H a o) h h' where
  keep:=fun b u q _ _ _=>k b u q
  slot:=fun b u q _ _ _=>⟨u.slots,k b u q⟩
  free:=fun b u q n _=>by rw [upd_ne (Nat.ne_of_lt (Nat.lt_of_lt_of_le (Heap.lt_size q) hp))];exact n
  there:=fun b u q _=>⟨u,k b u q⟩
  tups:=fun b xs q=>by rw [upd_ne (ne_of_none q hn)];exact q
  frzs:=fun b u xs q=>by rw [upd_ne (ne_of_none q hn)];exact q
  tbls:=fun b ps q=>⟨#[],by rw [upd_ne (ne_of_none q hn),q];simp⟩
theorem Un.write (mu:Mut (H x)) (he:e=x∨H e=some (.own x)) (k:∀ b u,b≠e→h.get? b=some u→h'.get? b=some u) (heo:∃ u,h'.get? e=some u):Un fs ex H (upd H x o) h h':=by
  have hx:∀ b,H b=none→b≠x:=fun b n z=>by subst z;rw [n] at mu;exact mu
  have hb:∀ b,H b=none→b≠e:=fun b n z=>by
    subst z
    rcases he with r | r
    · exact hx b n r
    · rw [n] at r;cases r
  have hm:∀ b u,H b=some u→¬ Mut (some u)→b≠x:=fun b u q nm z=>by subst z;rw [q] at mu;exact nm mu
  refine ⟨fun b u q n _ _=>k b u (hb b n) q,fun b u q n _ _=>⟨u.slots,k b u (hb b n) q⟩,fun b u q n _=>by rw [upd_ne (hx b n)];exact n,fun b u q _=>?_,
    fun b xs q=>by rw [upd_ne (hm b _ q fun z=>z)];exact q,fun b u xs q=>by rw [upd_ne (hm b _ q fun z=>z)];exact q,fun b ps q=>⟨#[],by rw [upd_ne (hm b _ q fun z=>z),q];simp⟩⟩
  by_cases hbe:b=e
  · subst hbe;exact heo
  · exact ⟨u,k b u hbe q⟩
end
def trk (h:Heap) (H:Hp):List Addr:=(List.range h.objs.size).filter fun a=>(H a).isSome
def hidT (h:Heap) (H:Hp):Heap:=PySem.W.hideAll h (trk h H)
theorem hidT_size (h:Heap) (H:Hp):(hidT h H).objs.size=h.objs.size:=PySem.W.hideAll_size _ _
theorem hidT_get {h:Heap} {H:Hp} {b:Addr} {o:Obj} (e:h.get? b=some o) (n:H b=none):(hidT h H).get? b=some o:=
  PySem.W.hideAll_get _ e fun hm=>by
    have q:(H b).isSome=true:=(List.mem_filter.mp hm).2
    rw [n] at q;simp at q
theorem of_hidT {h:Heap} {H:Hp} {b:Addr} {o:Obj} (e:(hidT h H).get? b=some o):h.get? b=some o∧H b=none:=by
  have e':h.get? b=some o:=PySem.W.of_hideAll (trk h H) e
  refine ⟨e',?_⟩
  cases q:H b with
  | none=>rfl
  | some x=>
    have hm:b∈trk h H:=List.mem_filter.mpr ⟨List.mem_range.mpr (Heap.lt_size e'),by simp [q]⟩
    have z:(hidT h H).get? b=none:=PySem.W.hideAll_none (trk h H) hm
    rw [z] at e;cases e
def allNews (g h:Heap) (L:Addr):List (Addr×Obj):=(List.range h.objs.size).filterMap fun a=>if a=L∨(g.get? a).isSome=true then none else (h.get? a).map fun o=>(a,o)
def rest (g h:Heap) (L d:Addr):List (Addr×Obj):=(allNews g h L).filter fun p=>decide (p.1≠d)
end L2
namespace L2
open PySem PySem.Spec PyProof.Rows
structure Mod (K:PySem.W.Frag) (mg:Str→Option Value) (base:Heap):Prop where
  kin:K.In base
  glob:base.Ns mainGlobals mg
  blt:∃ mb,base.Ns builtinsNs mb∧∀ x:Str,x≠"__name__"→mb x=bootBuiltins x
  nolimit:base.NoLimit
structure Cx where
  prog:Program
  w:World
  K:PySem.W.Frag
  mg:Str→Option Value
  base:Heap
  A:Around
  N:List Str
  s₀:Shared
  H₀:Hp
  env:Env
  outer:List Env
  stack:List Env
  ex:List Addr
  fn:Str→Bool
  calm:Bool
  pn:List (Addr×Obj)
  xe:Value→Shared→Prop
def frs (l:List Env):List Addr:=l.filterMap (·.frame)
abbrev Cx.fs (X:Cx):List Addr:=frs X.outer
def Vis (sc:Scope) (x:Str):Prop:=sc.names.lookup x=some .local∨sc.names.lookup x=some .cell∨sc.names.lookup x=some .free
def Loc (sc:Scope) (x:Str):Prop:=sc.names.lookup x=some .local∨sc.names.lookup x=some .cell
def Look (env:Env) (h:Heap) (m:Str→Option Value) (x:Str) (u:Value):Prop:=
  (env.kindOf x=some .local∧m x=some u)∨((env.kindOf x=some .cell∨env.kindOf x=some .free)∧∃ c,env.cells.lookup x=some c∧h.IsCell c (some u))
structure Cx.Ok (X:Cx):Prop where
  mod:Mod X.K X.mg X.base
  kind:X.env.scope.kind=.function
  glob:X.env.globals=mainGlobals
  blt:X.env.builtins=builtinsNs
  above:X.s₀.heap.objs.size≤X.env.locals
  inj:∀ x y c,X.env.cells.lookup x=some c→X.env.cells.lookup y=some c→x=y
  has:∀ x,(X.env.kindOf x=some .cell∨X.env.kindOf x=some .free)→∃ c,X.env.cells.lookup x=some c
  cab:∀ x c,X.fn x=true→X.env.cells.lookup x=some c→X.s₀.heap.objs.size≤c
  hd:X.calm=true→X.A.handled=none
  frames:X.A.frames=some X.stack
  stk:X.stack=X.outer∨(X.stack=X.env::X.outer∧X.env.frame=some X.env.locals)
  exf:∀ b∈X.ex,b≠X.env.locals∧∀ x c,X.env.cells.lookup x=some c→c≠b
  bs:∀ b o,X.base.get? b=some o→X.s₀.heap.get? b=some o∧X.H₀ b=none
  bsz:X.base.objs.size≤X.s₀.heap.objs.size
  noex:∀ b o,X.base.get? b=some o→b∉X.ex
  exfs:∀ b∈X.ex,b∉X.fs
  funs:X.s₀.heap.FunFrames X.base X.outer
  frf:∀ b∈X.fs,X.H₀ b=none
structure Inv (X:Cx) (pins:List (Addr×Obj)) (σ:List (Option V)) (H:Hp) (s:Shared):Prop where
  ok:X.Ok
  os:s.os=X.s₀.os
  bare:AllBare s.gens
  base:Un X.fs X.ex X.H₀ H X.s₀.heap s.heap
  loc:∃ m,s.heap.Ns X.env.locals m∧∀ (i:Nat) (x:Str) (v:V),X.N[i]?=some x→σ[i]?=some (some v)→Vis X.env.scope x→∃ u,RelV v u∧Look X.env s.heap m x u
  cell:∀ x c,X.env.cells.lookup x=some c→∃ v,s.heap.IsCell c v
  free:H X.env.locals=none
  freeC:∀ x c,X.env.cells.lookup x=some c→H c=none
  pin:∀ p∈X.pn++pins,s.heap.get? p.1=some p.2∧H p.1=none∧p.1≠X.env.locals∧p.1∉X.fs∧∀ v,p.2.data≠.cell v
  hok:HOk X.prog X.w H s.heap
  len:σ.length=X.N.length
section
variable {X:Cx} {pins:List (Addr×Obj)} {σ:List (Option V)} {H H':Hp} {s:Shared} {h':Heap}
theorem Cx.Ok.nofr (ok:X.Ok) {b:Addr} {o:Obj} (e:X.base.get? b=some o):b∉X.fs:=fun hb=>by
  have:=(ok.funs.mem hb).1
  rw [e] at this;cases this
theorem Inv.bs (I:Inv X pins σ H s):∀ b o,X.base.get? b=some o→s.heap.get? b=some o∧H b=none:=fun b o e=>
  ⟨I.base.keep b o (I.ok.bs b o e).1 (I.ok.bs b o e).2 (I.ok.nofr e) (I.ok.noex b o e),I.base.free b o (I.ok.bs b o e).1 (I.ok.bs b o e).2 (I.ok.noex b o e)⟩
theorem Inv.bk (I:Inv X pins σ H s):∀ b o,X.base.get? b=some o→s.heap.get? b=some o:=fun b o e=>(I.bs b o e).1
theorem Inv.mod (I:Inv X pins σ H s):Mod X.K X.mg X.base:=I.ok.mod
theorem Inv.kIn (I:Inv X pins σ H s):X.K.In s.heap:=I.ok.mod.kin.keeps I.bk
theorem Inv.lt (I:Inv X pins σ H s):X.env.locals<s.heap.objs.size:=let ⟨_,hn,_⟩:=I.loc;hn.lt
theorem Inv.sz (I:Inv X pins σ H s):X.s₀.heap.objs.size≤s.heap.objs.size:=Nat.le_trans I.ok.above (Nat.le_of_lt I.lt)
theorem Inv.nofs (I:Inv X pins σ H s) {a:Addr} (h:s.heap.objs.size≤a):a∉X.fs:=fun hb=>by
  obtain ⟨_,o,ho,_⟩:=I.ok.funs.mem hb
  exact absurd (Nat.lt_of_lt_of_le (Heap.lt_size ho) (Nat.le_trans I.sz h)) (Nat.lt_irrefl _)
theorem Inv.cne (I:Inv X pins σ H s):∀ x c,X.env.cells.lookup x=some c→c≠X.env.locals:=fun x c e z=>by
  obtain ⟨v,o,ho,hd⟩:=I.cell x c e
  obtain ⟨m,⟨o',es,ep,ho',hd',_⟩,_⟩:=I.loc
  rw [z,ho'] at ho;cases ho;rw [hd'] at hd;cases hd
theorem Inv.funs (I:Inv X pins σ H s):s.heap.FunFrames X.base X.outer:=by
  have all:∀ (l:List Env),(∀ b∈frs l,b∈X.fs)→X.s₀.heap.FunFrames X.base l→s.heap.FunFrames X.base l:=by
    intro l
    induction l with
    | nil=>intro _ _;trivial
    | cons env r ih=>
      intro hs hl
      obtain ⟨hk,⟨L,o,hf,hn,ho,hd⟩,hr⟩:=hl
      have hL:L∈X.fs:=hs L (by unfold frs;rw [List.filterMap_cons,hf];exact List.mem_cons_self)
      obtain ⟨sl,e⟩:=I.base.slot L o ho (I.ok.frf L hL) hL fun z=>I.ok.exfs L z hL
      exact ⟨hk,⟨L,_,hf,hn,e,hd⟩,ih (fun b hb=>hs b (by unfold frs;rw [List.filterMap_cons,hf];exact List.mem_cons_of_mem _ hb)) hr⟩
  exact all X.outer (fun _ hb=>hb) I.ok.funs
theorem Inv.stack (I:Inv X pins σ H s):s.heap.FunFrames X.base X.stack:=by
  rcases I.ok.stk with e | ⟨e,hf⟩
  · rw [e];exact I.funs
  · rw [e]
    obtain ⟨m,hn,_⟩:=I.loc
    refine .cons (by rw [I.ok.kind];decide) hf hn ?_ I.funs
    exact Heap.get?_none_of_le (Nat.le_trans I.ok.bsz I.ok.above)
theorem Inv.stkSub (I:Inv X pins σ H s):∀ b∈frs X.stack,b∈X.env.locals::X.fs:=fun b hb=>by
  rcases I.ok.stk with e | ⟨e,hf⟩
  · rw [e] at hb;exact List.mem_cons_of_mem _ hb
  · rw [e] at hb
    unfold frs at hb
    rw [List.filterMap_cons,hf] at hb
    exact hb
theorem Inv.stkFree (I:Inv X pins σ H s):∀ b∈frs X.stack,H b=none:=fun b hb=>by
  rcases List.mem_cons.mp (I.stkSub b hb) with e | hb
  · rw [e];exact I.free
  · obtain ⟨_,o,ho,_⟩:=I.ok.funs.mem hb
    exact I.base.free b o ho (I.ok.frf b hb) fun z=>I.ok.exfs b z hb
theorem Inv.step {g':Array GenState} {t':Nat} {d':Drawn} {ch:List Addr} (I:Inv X pins σ H s)
    (hch:∀ b∈ch,(b∈X.ex∨X.s₀.heap.objs.size≤b)∧b≠X.env.locals∧(∀ x c,X.env.cells.lookup x=some c→c≠b)∧∀ p∈X.pn++pins,p.1≠b)
    (keep:∀ b o,b≠X.env.locals→b∉X.fs→b∉ch→s.heap.get? b=some o→H b=none→h'.get? b=some o)
    (slot:∀ b o,b≠X.env.locals→b∈X.fs→b∉ch→s.heap.get? b=some o→H b=none→∃ sl,h'.get? b=some { o with slots:=sl }) (free:∀ b o,b∉ch→s.heap.get? b=some o→H b=none→H' b=none)
    (there:∀ b o,b∉ch→s.heap.get? b=some o→∃ o',h'.get? b=some o')
    (tups:∀ b xs,H b=some (.tup xs)→H' b=some (.tup xs)) (frzs:∀ b o u,H b=some (.frz o u)→H' b=some (.frz o u)) (tbls:∀ b ps,H b=some (.tbl ps)→∃ more,H' b=some (.tbl (ps++more)))
    (ns:∀ m,s.heap.Ns X.env.locals m→h'.Ns X.env.locals m) (hok:HOk X.prog X.w H' h') (hg:AllBare g') :
    Inv X pins σ H' { s with heap:=h',gens:=g',drawn:=d',toks:=t' }:=by
  have neL:∀ b o,X.s₀.heap.get? b=some o→b≠X.env.locals:=fun b o e=>Nat.ne_of_lt (Nat.lt_of_lt_of_le (Heap.lt_size e) I.ok.above)
  have neC:∀ b o,X.s₀.heap.get? b=some o→b∉X.ex→b∉ch:=fun b o e hx hb=>by
    rcases (hch b hb).1 with z | z
    · exact hx z
    · exact absurd (Nat.lt_of_lt_of_le (Heap.lt_size e) z) (Nat.lt_irrefl _)
  have cellK:∀ x c,X.env.cells.lookup x=some c→∀ v,s.heap.IsCell c v→h'.IsCell c v:=fun x c e v ⟨o,ho,hd⟩=>by
    have nch:c∉ch:=fun z=>(hch c z).2.2.1 x c e rfl
    by_cases hc:c∈X.fs
    · obtain ⟨sl,q⟩:=slot c o (I.cne x c e) hc nch ho (I.freeC x c e)
      exact ⟨_,q,hd⟩
    · exact ⟨o,keep c o (I.cne x c e) hc nch ho (I.freeC x c e),hd⟩
  refine ⟨I.ok,I.os,hg,⟨fun b o e n hb hx=>?_,fun b o e n hb hx=>?_,fun b o e n hx=>?_,fun b o e hx=>?_,fun b xs e=>tups b xs (I.base.tups b xs e),fun b o xs e=>frzs b o xs (I.base.frzs b o xs e),fun b ps e=>?_⟩,?_,fun x c e=>?_,?_,fun x c e=>?_,fun p hp=>?_,hok,I.len⟩
  · exact keep b o (neL b o e) hb (neC b o e hx) (I.base.keep b o e n hb hx) (I.base.free b o e n hx)
  · obtain ⟨sl,e1⟩:=I.base.slot b o e n hb hx
    obtain ⟨sl',e2⟩:=slot b _ (neL b o e) hb (neC b o e hx) e1 (I.base.free b o e n hx)
    exact ⟨sl',e2⟩
  · obtain ⟨o',e1⟩:=I.base.there b o e hx
    exact free b o' (neC b o e hx) e1 (I.base.free b o e n hx)
  · obtain ⟨o',e1⟩:=I.base.there b o e hx
    exact there b o' (neC b o e hx) e1
  · obtain ⟨m1,e1⟩:=I.base.tbls b ps e
    obtain ⟨m2,e2⟩:=tbls b _ e1
    exact ⟨m1++m2,by rw [e2,Array.append_assoc]⟩
  · obtain ⟨m,hn,hl⟩:=I.loc
    refine ⟨m,ns m hn,fun i x v e1 e2 e3=>?_⟩
    obtain ⟨u,r,l⟩:=hl i x v e1 e2 e3
    refine ⟨u,r,?_⟩
    rcases l with l | ⟨k,c,e,z⟩
    · exact .inl l
    · exact .inr ⟨k,c,e,cellK x c e _ z⟩
  · obtain ⟨v,z⟩:=I.cell x c e
    exact ⟨v,cellK x c e v z⟩
  · obtain ⟨m,⟨o,_,_,ho,_⟩,_⟩:=I.loc
    exact free _ o (fun z=>(hch _ z).2.1 rfl) ho I.free
  · obtain ⟨v,o,ho,hd⟩:=I.cell x c e
    exact free c o (fun z=>(hch c z).2.2.1 x c e rfl) ho (I.freeC x c e)
  · obtain ⟨e,n,ne,nf,d⟩:=I.pin p hp
    have nch:p.1∉ch:=fun z=>(hch p.1 z).2.2.2 p hp rfl
    exact ⟨keep p.1 p.2 ne nf nch e n,free p.1 p.2 nch e n,ne,nf,d⟩
theorem Inv.un {t':Nat} (I:Inv X pins σ H s) (u:Un X.fs [] H H' s.heap h') (hok:HOk X.prog X.w H' h'):Inv X pins σ H' { s with heap:=h',toks:=t' }:=by
  obtain ⟨m,⟨o,es,ep,ho,r⟩,_⟩:=id I.loc
  obtain ⟨sl,hL⟩:=u.any ho I.free (by simp)
  exact I.step (g':=s.gens) (d':=s.drawn) (ch:=[]) (fun _ z=>nomatch z) (fun b o _ hb _ e n=>u.keep b o e n hb (by simp)) (fun b o _ hb _ e n=>u.slot b o e n hb (by simp)) (fun b o _ e n=>u.free b o e n (by simp)) (fun b o _ e=>u.there b o e (by simp)) u.tups u.frzs u.tbls (fun m' hm=>by
    obtain ⟨o',es',ep',ho',r'⟩:=hm
    rw [ho] at ho';cases ho'
    exact ⟨_,es',ep',hL,r'⟩) hok I.bare
theorem Inv.call {g':Array GenState} {t':Nat} {d':Drawn} {ch:List Addr} (I:Inv X pins σ H s) (u:Un (frs X.stack) ch H H' s.heap h') (hok:HOk X.prog X.w H' h') (hg:AllBare g')
    (hch:∀ b∈ch,(b∈X.ex∨X.s₀.heap.objs.size≤b)∧b≠X.env.locals∧(∀ x c,X.env.cells.lookup x=some c→c≠b)∧∀ p∈X.pn++pins,p.1≠b) :
    Inv X pins σ H' { s with heap:=h',gens:=g',drawn:=d',toks:=t' }:=by
  obtain ⟨m,⟨o,es,ep,ho,r⟩,_⟩:=id I.loc
  obtain ⟨sl,hL⟩:=u.any ho I.free fun z=>(hch _ z).2.1 rfl
  exact I.step (ch:=ch) hch (fun b o hL hb hc e n=>u.keep b o e n (fun z=>(List.mem_cons.mp (I.stkSub b z)).elim hL hb) hc) (fun b o _ _ hc e n=>u.any e n hc) (fun b o hc e n=>u.free b o e n hc) (fun b o hc e=>u.there b o e hc) u.tups u.frzs u.tbls (fun m' hm=>by
    obtain ⟨o',es',ep',ho',r'⟩:=hm
    rw [ho] at ho';cases ho'
    exact ⟨_,es',ep',hL,r'⟩) hok hg
theorem Inv.turned {t':Nat} {it:Addr} (I:Inv X pins σ H s) (k:∀ b o,b≠it→s.heap.get? b=some o→h'.get? b=some o) (hn:H it=none) (hL:it≠X.env.locals)
    (h1:it∈X.ex∨X.s₀.heap.objs.size≤it) (h2:∀ x c,X.env.cells.lookup x=some c→c≠it) (h3:∀ p∈X.pn++pins,p.1≠it):Inv X pins σ H { s with heap:=h',toks:=t' }:=by
  have nit:∀ b u,H b=some u→b≠it:=fun b u e z=>by rw [z,hn] at e;cases e
  refine I.step (g':=s.gens) (d':=s.drawn) (ch:=[it]) (fun b hb=>?_) (fun b o _ _ hc e _=>k b o (fun z=>hc (by simp [z])) e) (fun b o _ _ hc e _=>⟨o.slots,k b o (fun z=>hc (by simp [z])) e⟩) (fun _ _ _ _ n=>n)
    (fun b o hc e=>⟨o,k b o (fun z=>hc (by simp [z])) e⟩) (fun _ _ e=>e) (fun _ _ _ e=>e) (fun b ps e=>⟨#[],by rw [e];simp⟩) (fun m hm=>?_) (fun b u e=>?_) I.bare
  · have e:b=it:=by simpa using hb
    subst e
    exact ⟨h1,hL,h2,h3⟩
  · obtain ⟨o,es,ep,ho,r⟩:=hm
    exact ⟨o,es,ep,k _ o (Ne.symm hL) ho,r⟩
  · refine (I.hok b u e).stay (fun c v hc q=>k c v ?_ q) (fun _ q=>q) fun _ _ q=>q
    rcases hc with z | z
    · rw [z];exact nit b u e
    · exact nit c _ z
theorem Inv.tok (I:Inv X pins σ H s) (t:Nat):Inv X pins σ H { s with toks:=t }:=I.un (h':=s.heap) (t':=t) Un.refl I.hok
theorem Inv.kept {t':Nat} (I:Inv X pins σ H s) (k:∀ b u,s.heap.get? b=some u→h'.get? b=some u):Inv X pins σ H { s with heap:=h',toks:=t' }:=I.un (Un.kept k) (I.hok.kept k)
theorem Inv.laid {a:Addr} {o:HO} {t':Nat} (I:Inv X pins σ H s) (k:∀ b u,s.heap.get? b=some u→h'.get? b=some u) (hp:s.heap.objs.size≤a) (new:ObjOk X.prog X.w (upd H a o) h' a o) :
    Inv X pins σ (upd H a o) { s with heap:=h',toks:=t' }:=I.un (Un.laid k hp (I.hok.fresh hp)) (I.hok.laid k hp new)
theorem Inv.write {x e:Addr} {o:HO} {t':Nat} (I:Inv X pins σ H s) (mu:Mut (H x)) (he:e=x∨H e=some (.own x)) (k:∀ b u,b≠e→s.heap.get? b=some u→h'.get? b=some u) (heo:∃ u,h'.get? e=some u)
    (new:ObjOk X.prog X.w (upd H x o) h' x o):Inv X pins σ (upd H x o) { s with heap:=h',toks:=t' }:=I.un (Un.write mu he k heo) (I.hok.write mu he k heo new)
theorem Inv.pins_of {pins':List (Addr×Obj)} (I:Inv X pins σ H s) (h:∀ p∈pins',s.heap.get? p.1=some p.2∧H p.1=none∧p.1≠X.env.locals∧p.1∉X.fs∧∀ v,p.2.data≠.cell v):Inv X pins' σ H s:=
  ⟨I.ok,I.os,I.bare,I.base,I.loc,I.cell,I.free,I.freeC,fun p hp=>(List.mem_append.mp hp).elim (fun z=>I.pin p (List.mem_append_left _ z)) (h p),I.hok,I.len⟩
theorem nodup_ix {N:List Str} (hN:N.Nodup) {i j:Nat} {x:Str} (a:N[i]?=some x) (b:N[j]?=some x):i=j:=by
  obtain ⟨h1,e1⟩:=List.getElem?_eq_some_iff.mp a
  obtain ⟨h2,e2⟩:=List.getElem?_eq_some_iff.mp b
  exact (List.getElem_inj hN).mp (e1.trans e2.symm)
theorem store_ok2 {M:Model} {A:Around} {E:Value→Shared→Prop} {i:Nat} {x:Str} {v:V} {u:Value} {Q:Unit→Shared→Prop} (I:Inv X pins σ H s) (hN:X.N.Nodup) (hi:X.N[i]?=some x) (hx:Loc X.env.scope x) (r:RelV v u)
    (h:∀ s',Inv X pins (σ.set i (some v)) H s'→(∃ a,Heap.SameBut a s.heap s'.heap∧(a=X.env.locals∨X.env.cells.lookup x=some a))→Q () s') (hf:X.fn x=true∨X.env.scope.names.lookup x=some .local:=by first | exact .inl rfl | exact .inr rfl | assumption):wpAny M A (storeName X.env x u) Q E s:=by
  obtain ⟨m,hn,hl⟩:=id I.loc
  have hcls:(X.env.scope.kind==.class||(X.env.scope.kind==.module&&X.env.locals != X.env.globals))=false:=by rw [I.ok.kind];rfl
  have hiσ:i < σ.length:=by rw [I.len];exact (List.getElem?_eq_some_iff.mp hi).1
  have cne:=I.cne
  have tracked:∀ {a:Addr} {h':Heap},(∃ o,s.heap.get? a=some o∧H a=none)→Heap.SameBut a s.heap h'→HOk X.prog X.w H h':=fun {a h'} ha hs b ob e=>by
    obtain ⟨_,_,hfree⟩:=ha
    refine (I.hok b ob e).stay (fun c w' hc q=>(hs.2 c ?_).trans q) (fun _ q=>q) fun _ _ q=>q
    rintro rfl
    rcases hc with rfl | hc
    · rw [hfree] at e;cases e
    · rw [hfree] at hc;cases hc
  rcases hx with hk | hk
  · refine wpAny_storeName_local hk hn (fun h' hn' hs=>?_) hcls
    obtain ⟨oL,_,_,hoL,_⟩:=id hn
    refine h _ ⟨I.ok,I.os,I.bare,⟨fun b o e n hb hx=>?_,fun b o e n hb hx=>?_,I.base.free,fun b o e hx=>?_,I.base.tups,I.base.frzs,I.base.tbls⟩,⟨_,hn',fun j y v' e1 e2 e3=>?_⟩,fun y c e=>?_,I.free,I.freeC,fun p hp=>?_,tracked ⟨oL,hoL,I.free⟩ hs,by simpa using I.len⟩ ⟨_,hs,.inl rfl⟩
    · exact (hs.2 b (Nat.ne_of_lt (Nat.lt_of_lt_of_le (Heap.lt_size e) I.ok.above))).trans (I.base.keep b o e n hb hx)
    · obtain ⟨sl,e1⟩:=I.base.slot b o e n hb hx
      exact ⟨sl,(hs.2 b (Nat.ne_of_lt (Nat.lt_of_lt_of_le (Heap.lt_size e) I.ok.above))).trans e1⟩
    · obtain ⟨o',e1⟩:=I.base.there b o e hx
      exact ⟨o',(hs.2 b (Nat.ne_of_lt (Nat.lt_of_lt_of_le (Heap.lt_size e) I.ok.above))).trans e1⟩
    · by_cases hj:j=i
      · subst hj
        rw [hi] at e1;cases e1
        rw [List.getElem?_set_self hiσ] at e2
        cases e2
        exact ⟨u,r,.inl ⟨hk,by simp⟩⟩
      · rw [List.getElem?_set_ne (Ne.symm hj)] at e2
        obtain ⟨u',r',q⟩:=hl j y v' e1 e2 e3
        refine ⟨u',r',?_⟩
        rcases q with ⟨k,e⟩ | ⟨k,c,e,z⟩
        · refine .inl ⟨k,?_⟩
          have:y≠x:=fun e=>hj (nodup_ix hN e1 (e▸hi))
          simp [this,e]
        · exact .inr ⟨k,c,e,z.sameBut hs (cne y c e)⟩
    · obtain ⟨w',z⟩:=I.cell y c e
      exact ⟨w',z.sameBut hs (cne y c e)⟩
    · obtain ⟨e,n,ne,nf,d⟩:=I.pin p hp
      exact ⟨(hs.2 p.1 ne).trans e,n,ne,nf,d⟩
  · have hfn:X.fn x=true:=by
      rcases hf with z | z
      · exact z
      · rw [z] at hk;cases hk
    obtain ⟨c,hc⟩:=I.ok.has x (.inl hk)
    obtain ⟨w',z⟩:=I.cell x c hc
    refine wpAny_storeName_cell I.ok.kind hk hc z (fun h' hc' hs=>?_)
    obtain ⟨oc,hoc,hocd⟩:=id z
    refine h { s with heap:=h' } ⟨I.ok,I.os,I.bare,⟨fun b o e n hb hx=>?_,fun b o e n hb hx=>?_,I.base.free,fun b o e hx=>?_,I.base.tups,I.base.frzs,I.base.tbls⟩,⟨m,hn.sameBut hs (Ne.symm (cne x c hc)),fun j y v' e1 e2 e3=>?_⟩,fun y c' e=>?_,I.free,I.freeC,fun p hp=>?_,tracked ⟨oc,hoc,I.freeC x c hc⟩ hs,by simpa using I.len⟩ ⟨c,hs,.inr hc⟩
    · exact (hs.2 b (Nat.ne_of_lt (Nat.lt_of_lt_of_le (Heap.lt_size e) (I.ok.cab x c hfn hc)))).trans (I.base.keep b o e n hb hx)
    · obtain ⟨sl,e1⟩:=I.base.slot b o e n hb hx
      exact ⟨sl,(hs.2 b (Nat.ne_of_lt (Nat.lt_of_lt_of_le (Heap.lt_size e) (I.ok.cab x c hfn hc)))).trans e1⟩
    · obtain ⟨o',e1⟩:=I.base.there b o e hx
      exact ⟨o',(hs.2 b (Nat.ne_of_lt (Nat.lt_of_lt_of_le (Heap.lt_size e) (I.ok.cab x c hfn hc)))).trans e1⟩
    · by_cases hj:j=i
      · subst hj
        rw [hi] at e1;cases e1
        rw [List.getElem?_set_self hiσ] at e2
        cases e2
        exact ⟨u,r,.inr ⟨.inl hk,c,hc,hc'⟩⟩
      · rw [List.getElem?_set_ne (Ne.symm hj)] at e2
        obtain ⟨u',r',q⟩:=hl j y v' e1 e2 e3
        refine ⟨u',r',?_⟩
        rcases q with q | ⟨k,c',e,z'⟩
        · exact .inl q
        · refine .inr ⟨k,c',e,z'.sameBut hs ?_⟩
          rintro rfl
          exact hj (nodup_ix hN e1 (I.ok.inj _ _ _ e hc▸hi))
    · by_cases hcc:c'=c
      · subst hcc;exact ⟨_,hc'⟩
      · obtain ⟨w2,z2⟩:=I.cell y c' e
        exact ⟨w2,z2.sameBut hs hcc⟩
    · obtain ⟨e,n,ne,nf,d⟩:=I.pin p hp
      refine ⟨(hs.2 p.1 ?_).trans e,n,ne,nf,d⟩
      intro q
      rw [q,hoc] at e
      have q':oc=p.2:=Option.some.inj e
      exact d w' (by rw [← q'];exact hocd)
theorem store_ok {M:Model} {A:Around} {E:Value→Shared→Prop} {i:Nat} {x:Str} {v:V} {u:Value} {Q:Unit→Shared→Prop} (I:Inv X pins σ H s) (hN:X.N.Nodup) (hi:X.N[i]?=some x) (hx:Loc X.env.scope x) (r:RelV v u)
    (h:∀ s',Inv X pins (σ.set i (some v)) H s'→Q () s') (hf:X.fn x=true∨X.env.scope.names.lookup x=some .local:=by first | exact .inl rfl | exact .inr rfl | assumption):wpAny M A (storeName X.env x u) Q E s:=
  store_ok2 I hN hi hx r (fun s' I' _=>h s' I') hf
theorem Inv.call' {s':Shared} {ch:List Addr} (I:Inv X pins σ H s) (ho:s'.os=s.os) (u:Un (frs X.stack) ch H H' s.heap s'.heap) (hok:HOk X.prog X.w H' s'.heap) (hg:AllBare s'.gens)
    (hch:∀ b∈ch,(b∈X.ex∨X.s₀.heap.objs.size≤b)∧b≠X.env.locals∧(∀ x c,X.env.cells.lookup x=some c→c≠b)∧∀ p∈X.pn++pins,p.1≠b):Inv X pins σ H' s':=by
  obtain ⟨h',g',d',t',o'⟩:=s'
  have e:o'=s.os:=ho
  subst e
  exact I.call (g':=g') (t':=t') (d':=d') u hok hg hch
end
abbrev XK:=Value→Option Addr→Hp→Prop
abbrev St:=List (Option V)
abbrev VK:=V→Hp→Prop
abbrev TE:=St→Hp→VK→Prop
abbrev TT:=St→Hp→(Bool→Hp→Prop)→Prop
abbrev TA:=St→Hp→(List V→Hp→Prop)→Prop
structure Ends where
  nx:St→Hp→Prop
  rt:VK
  bk:St→Hp→Prop:=fun _ _=>False
  ct:St→Hp→Prop:=fun _ _=>False
abbrev TS:=Ends→St→Hp→Prop
def EP (X:Cx) (pins:List (Addr×Obj)) (σ:St) (Q:VK) (u:Value) (s':Shared):Prop:=∃ v H',Inv X pins σ H' s'∧RelV v u∧Q v H'
def TP (X:Cx) (pins:List (Addr×Obj)) (σ:St) (Q:Bool→Hp→Prop) (b:Bool) (s':Shared):Prop:=∃ H',Inv X pins σ H' s'∧Q b H'
def AP (X:Cx) (pins:List (Addr×Obj)) (σ:St) (Q:List V→Hp→Prop) (us:List Value) (s':Shared):Prop:=∃ vs H',Inv X pins σ H' s'∧Vals vs us∧Q vs H'
def SP (X:Cx) (pins:List (Addr×Obj)) (D:Ends) (f:Flow) (s':Shared):Prop:=
  match f with
  | .next=>∃ σ' H',Inv X pins σ' H' s'∧D.nx σ' H'
  | .brk=>∃ σ' H',Inv X pins σ' H' s'∧D.bk σ' H'
  | .cont=>∃ σ' H',Inv X pins σ' H' s'∧D.ct σ' H'
  | .ret u=>∃ v σ' H',Inv X pins σ' H' s'∧RelV v u∧D.rt v H'
def PE (X:Cx) (e:Expr) (t:TE):Prop:=
  ∀ (pins:List (Addr×Obj)) (s:Shared) (σ:St) (H:Hp) (Q:VK),Inv X pins σ H s→t σ H Q→wpAny (model X.prog X.w) X.A (eval e X.env) (EP X pins σ Q) X.xe s
def PT (X:Cx) (e:Expr) (t:TT):Prop:=
  ∀ (pins:List (Addr×Obj)) (s:Shared) (σ:St) (H:Hp) (Q:Bool→Hp→Prop),Inv X pins σ H s→t σ H Q→wpAny (model X.prog X.w) X.A (isTrue e X.env (eval e X.env)) (TP X pins σ Q) X.xe s
def PW (X:Cx) (e:Expr) (t:TT):Prop:=
  ∀ (whole:Sem Value) (pins:List (Addr×Obj)) (s:Shared) (σ:St) (H:Hp) (Q:Bool→Hp→Prop),Inv X pins σ H s→t σ H Q→wpAny (model X.prog X.w) X.A (isTrue e X.env whole) (TP X pins σ Q) X.xe s
theorem PW.pt {X:Cx} {e:Expr} {t:TT} (h:PW X e t):PT X e t:=h _
def PA (X:Cx) (es:List Expr) (t:TA):Prop:=
  ∀ (pos:Pos) (pins:List (Addr×Obj)) (s:Shared) (σ:St) (H:Hp) (Q:List V→Hp→Prop),Inv X pins σ H s→t σ H Q→wpAny (model X.prog X.w) X.A (spliced (backTo pos (starEach es X.env))) (AP X pins σ Q) X.xe s
def PS (X:Cx) (st:Stmt) (t:TS):Prop:=
  ∀ (pins:List (Addr×Obj)) (s:Shared) (σ:St) (H:Hp) (D:Ends),Inv X pins σ H s→t D σ H→wpAny (model X.prog X.w) X.A (exec st X.env) (SP X pins D) X.xe s
def PSs (X:Cx) (st:List Stmt) (t:TS):Prop:=
  ∀ (pins:List (Addr×Obj)) (s:Shared) (σ:St) (H:Hp) (D:Ends),Inv X pins σ H s→t D σ H→wpAny (model X.prog X.w) X.A (execs st X.env) (SP X pins D) X.xe s
theorem thn {α:Type} {t:Sem α} {Q Q':α→Shared→Prop} {M:Model} {A:Around} {E:Value→Shared→Prop} {s:Shared} (h:wpAny M A t Q E s) (hQ:∀ a s,Q a s→Q' a s):wpAny M A t Q' E s:=wpAny_mono h hQ fun _ _ x=>x
end L2
namespace L2
open PySem PySem.Spec PyProof.Rows
section
variable {X:Cx}
def tVar (i:Nat):TE:=fun σ H Q=>∃ v,σ[i]?=some (some v)∧Q v H
def tC (v:V):TE:=fun _ H Q=>Q v H
theorem pe_var {i:Nat} {x:Str} {pos:Pos} (hN:X.N[i]?=some x) (hv:Vis X.env.scope x) (hd:(x==("__debug__":Str))=false:=by decide) (hcd:(x==("__classdict__":Str))=false:=by decide):PE X (.Name x pos) (tVar i):=by
  intro pins s σ H Q I h
  obtain ⟨v,e,h⟩:=h
  obtain ⟨m,hn,hl⟩:=I.loc
  obtain ⟨u,r,l⟩:=hl i x v hN e hv
  have fin:EP X pins σ Q u s:=⟨v,H,I,r,h⟩
  rcases l with ⟨hk,hm⟩ | ⟨hk,c,hc,hcell⟩
  · exact wpAny_Name (wpAny_loadName_local I.ok.kind hk hn hm fin) hd
  · rcases hk with hk | hk
    · exact wpAny_Name (wpAny_loadName_cell I.ok.kind hk hc hcell fin) hd
    · exact wpAny_Name (wpAny_loadName_free I.ok.kind hk hc hcell fin hcd) hd
theorem pe_int {i j pos}:PE X (.Constant (.int i) j pos) (tC (.int i)):=fun _ _ _ H _ I h=>wpAny_Constant_int ⟨.int i,H,I.tok _,⟨_,rfl⟩,h⟩
theorem pe_bl {b j pos}:PE X (.Constant (.bool b) j pos) (tC (.bl b)):=fun _ _ _ H _ I h=>Constant_bool ⟨.bl b,H,I,rfl,h⟩
theorem pe_non {j pos}:PE X (.Constant .none j pos) (tC .non):=fun _ _ _ H _ I h=>Constant_none ⟨.non,H,I,rfl,h⟩
theorem pe_str {x j pos}:PE X (.Constant (.str x) j pos) (tC (.str x)):=fun _ _ _ H _ I h=>Calls.Constant_str ⟨.str x,H,I.tok _,⟨_,rfl⟩,h⟩
def Gl (X:Cx) (x:Str):Prop:=X.env.kindOf x=some .globalImplicit
theorem ld_glob {E:Value→Shared→Prop} {pins:List (Addr×Obj)} {s:Shared} {σ:St} {H:Hp} {x:Str} {u:Value} {pos:Pos} {Q:Value→Shared→Prop} (I:Inv X pins σ H s) (hg:Gl X x) (hm:X.mg x=some u) (h:Q u s)
    (hd:(x==("__debug__":Str))=false:=by decide):wpAny (model X.prog X.w) X.A (eval (.Name x pos) X.env) Q E s:=
  Calls.Name_function_global I.ok.kind hg (Calls.loadGlobal_global (by rw [I.ok.glob];exact I.mod.glob.keeps I.bk) hm h) hd
theorem ld_blt {E:Value→Shared→Prop} {pins:List (Addr×Obj)} {s:Shared} {σ:St} {H:Hp} {x:Str} {u:Value} {pos:Pos} {Q:Value→Shared→Prop} (I:Inv X pins σ H s) (hg:Gl X x) (hm:X.mg x=none) (hv:bootBuiltins x=some u) (h:Q u s)
    (hn:x≠"__name__":=by decide) (hd:(x==("__debug__":Str))=false:=by decide):wpAny (model X.prog X.w) X.A (eval (.Name x pos) X.env) Q E s:=by
  obtain ⟨mb,h1,h2⟩:=I.mod.blt
  exact Calls.Name_function_global I.ok.kind hg (Calls.loadGlobal_builtin (by rw [I.ok.glob];exact I.mod.glob.keeps I.bk) hm (by rw [I.ok.blt];exact h1.keeps I.bk) ((h2 x hn).trans hv) h) hd
theorem pe_bltn {x:Str} {v:V} {u:Value} {pos:Pos} (hg:Gl X x) (hm:X.mg x=none) (hv:bootBuiltins x=some u) (r:RelV v u) (hn:x≠"__name__":=by decide) (hd:(x==("__debug__":Str))=false:=by decide):PE X (.Name x pos) (tC v):=
  fun _ _ _ H _ I h=>ld_blt I hg hm hv ⟨v,H,I,r,h⟩ hn hd
variable {a b:Expr} {ta tb:TE} {pos:Pos}
def tB (t:TE):TT:=fun σ H Q=>t σ H fun x H1=>∃ c,x=.bl c∧Q c H1
theorem pt_val {e:Expr} {t:TE} (h:PE X e t) (he:∀ whole,isTrue e X.env whole=(do let v ← whole;standAt e.pos;holding [v] (truthy v)):=by intro _;rfl):PT X e (tB t):=by
  intro pins s σ H Q I hw
  refine isTrue_plain (thn (h pins s σ H _ I hw) fun v s1 ⟨x,H1,I1,r1,q1⟩=>?_) (he _)
  obtain ⟨d,rfl,q⟩:=q1
  cases r1
  exact wpAny_truthy_bool ⟨H1,I1,q⟩
variable {tA tB':TT} {rest:List Expr}
def tAnd (t u:TT):TT:=fun σ H Q=>t σ H fun c H1=>if c=true then u σ H1 Q else Q false H1
def tOr (t u:TT):TT:=fun σ H Q=>t σ H fun c H1=>if c=true then Q true H1 else u σ H1 Q
def tNot (t:TT):TT:=fun σ H Q=>t σ H fun c H1=>Q (!c) H1
theorem pw_and1 (ha:PT X a tA):PW X (.BoolOp .And [a] pos) tA:=by
  intro wh pins s σ H Q I h
  refine isTrue_and (thn (ha pins s σ H Q I h) fun c s1 e=>?_)
  cases c with
  | true=>exact isTrue_and_nil e
  | false=>exact e
theorem pw_or1 (ha:PT X a tA):PW X (.BoolOp .Or [a] pos) tA:=by
  intro wh pins s σ H Q I h
  refine isTrue_or (thn (ha pins s σ H Q I h) fun c s1 e=>?_)
  cases c with
  | false=>exact isTrue_or_nil e
  | true=>exact e
theorem pw_and (ha:PT X a tA) (hb:PW X (.BoolOp .And (b::rest) pos) tB'):PW X (.BoolOp .And (a::b::rest) pos) (tAnd tA tB'):=by
  intro wh pins s σ H Q I h
  refine isTrue_and (thn (ha pins s σ H _ I h) fun c s1 ⟨H1,I1,q1⟩=>?_)
  cases c with
  | true=>exact hb wh pins s1 σ H1 Q I1 q1
  | false=>exact ⟨H1,I1,q1⟩
theorem pw_or (ha:PT X a tA) (hb:PW X (.BoolOp .Or (b::rest) pos) tB'):PW X (.BoolOp .Or (a::b::rest) pos) (tOr tA tB'):=by
  intro wh pins s σ H Q I h
  refine isTrue_or (thn (ha pins s σ H _ I h) fun c s1 ⟨H1,I1,q1⟩=>?_)
  cases c with
  | true=>exact ⟨H1,I1,q1⟩
  | false=>exact hb wh pins s1 σ H1 Q I1 q1
theorem pt_not (ha:PT X a tA):PT X (.UnaryOp .Not a pos) (tNot tA):=by
  intro pins s σ H Q I h
  exact isTrue_not (ha pins s σ H (fun c H1=>Q (!c) H1) I h)
def tAndV (ta tb:TE):TE:=fun σ H Q=>ta σ H fun x H1=>∃ c,x=.bl c∧if c=true then tb σ H1 Q else Q (.bl false) H1
def tNotV (ta:TE):TE:=fun σ H Q=>ta σ H fun x H1=>∃ c,x=.bl c∧Q (.bl (!c)) H1
theorem pe_one {op} {t:TE} (h:PE X a t):PE X (.BoolOp op [a] pos) t:=fun pins s σ H Q I hw=>BoolOp_one (h pins s σ H Q I hw)
theorem pe_and (ha:PE X a ta) (hb:PE X (.BoolOp .And (b::rest) pos) tb):PE X (.BoolOp .And (a::b::rest) pos) (tAndV ta tb):=by
  intro pins s σ H Q I h
  refine BoolOp_and (thn (ha pins s σ H _ I h) fun v s1 ⟨x,H1,I1,r1,q1⟩=>?_)
  obtain ⟨c,rfl,q1⟩:=q1
  cases r1
  refine wpAny_truthy_bool ?_
  cases c with
  | true=>exact hb pins s1 σ H1 Q I1 q1
  | false=>exact ⟨.bl false,H1,I1,rfl,q1⟩
theorem pe_not (ha:PE X a ta):PE X (.UnaryOp .Not a pos) (tNotV ta):=by
  intro pins s σ H Q I h
  refine UnaryOp_ (thn (ha pins s σ H _ I h) fun v s1 ⟨x,H1,I1,r1,q1⟩=>?_)
  obtain ⟨c,rfl,q1⟩:=q1
  cases r1
  exact not_of (wpAny_truthy_bool ⟨.bl (!c),H1,I1,rfl,q1⟩)
def tIf (t:TT) (ta tb:TE):TE:=fun σ H Q=>t σ H fun c H1=>if c=true then ta σ H1 Q else tb σ H1 Q
theorem pe_ifExp {c:Expr} (hc:PT X c tA) (ha:PE X a ta) (hb:PE X b tb):PE X (.IfExp c a b pos) (tIf tA ta tb):=by
  intro pins s σ H Q I h
  refine wpAny_IfExp (thn (hc pins s σ H _ I h) fun d s1 ⟨H1,I1,q1⟩=>?_)
  cases d with
  | true=>exact ha pins s1 σ H1 Q I1 q1
  | false=>exact hb pins s1 σ H1 Q I1 q1
end
end L2
namespace L2
open PySem PySem.Spec PyProof.Rows
def SqL (K:PySem.W.Frag) (H:Hp) (a:Addr) (xs:List V):Prop:=
  Rd H a (.lst xs)∨
    ∃ (o:Obj) (its:Array Value) (n:Nat),K.lookup a=some o∧o.cls=.type "list"∧o.dict=none∧o.data=.seq its n∧its.size≤sizeLine∧Vals xs its.toList
def SqT (K:PySem.W.Frag) (H:Hp) (a:Addr) (xs:List V):Prop:=
  Rd H a (.tup xs)∨
    ∃ (o:Obj) (its:Array Value) (n:Nat),K.lookup a=some o∧o.cls=.type "tuple"∧o.data=.seq its n∧its.size≤sizeLine∧Vals xs its.toList
def absV:Value→Option V
  | .none=>some .non
  | .bool b=>some (.bl b)
  | .int i _=>some (.int i)
  | .str x _=>some (.str x)
  | .bytes b _=>some (.byt b)
  | .float b _=>some (.flt b)
  | .ref a=>some (.ref a)
  | .type n=>some (.ty n)
  | _=>none
theorem RelV.abs {x:V} {u:Value} (r:RelV x u):absV u=some x:=by
  cases x with
  | non=>cases r;rfl
  | bl _=>cases r;rfl
  | int _=>obtain ⟨t,rfl⟩:=r;rfl
  | str _=>obtain ⟨t,rfl⟩:=r;rfl
  | byt _=>obtain ⟨t,rfl⟩:=r;rfl
  | flt _=>obtain ⟨t,rfl⟩:=r;rfl
  | ref _=>cases r;rfl
  | ty _=>cases r;rfl
theorem RelV.inj {x y:V} {u:Value} (r:RelV x u) (q:RelV y u):x=y:=Option.some.inj (r.abs.symm.trans q.abs)
theorem Vals.inj:∀ {xs ys:List V} {us:List Value},Vals xs us→Vals ys us→xs=ys
  | _,_,_,.nil,.nil=>rfl
  | _,_,_,.cons r t,.cons r' t'=>by rw [r.inj r',Vals.inj t t']
section
variable {X:Cx} {pins:List (Addr×Obj)} {σ:St} {H:Hp} {s:Shared} {a:Addr} {xs ys:List V}
theorem SqL.of {K:PySem.W.Frag} (h:H a=some (.lst xs)):SqL K H a xs:=.inl (.inl h)
theorem SqT.of {K:PySem.W.Frag} (h:H a=some (.tup xs)):SqT K H a xs:=.inl (.inl h)
theorem Inv.list (I:Inv X pins σ H s) (h:SqL X.K H a xs):∃ its:List Value,Vals xs its∧PlainL s.heap a its.toArray∧xs.length≤sizeLine:=by
  rcases h with h | ⟨o,its,n,hk,hc,hd,hs,hz,r⟩
  · obtain ⟨z,its,n,r,e⟩:=h.ok I.hok
    exact ⟨its,r,⟨_,n,e,rfl,rfl,rfl⟩,z⟩
  · refine ⟨its.toList,r,⟨o,n,I.kIn a o hk,hc,hd,by simpa using hs⟩,?_⟩
    have e:=r.length
    simp only [Array.length_toList] at e
    omega
theorem Inv.tuple (I:Inv X pins σ H s) (h:SqT X.K H a xs):∃ its:List Value,Vals xs its∧IsTup s.heap a its.toArray∧xs.length≤sizeLine:=by
  rcases h with h | ⟨o,its,n,hk,hc,hs,hz,r⟩
  · obtain ⟨z,its,r,p⟩:=h.ok I.hok
    exact ⟨its,r,p,z⟩
  · refine ⟨its.toList,r,⟨o,I.kIn a o hk,hc,n,by simpa using hs⟩,?_⟩
    have e:=r.length
    simp only [Array.length_toList] at e
    omega
theorem Inv.list_inj (I:Inv X pins σ H s) (h:SqL X.K H a xs) (h':SqL X.K H a ys):xs=ys:=by
  obtain ⟨its,r,⟨o,n,e,_,_,d⟩,_⟩:=I.list h
  obtain ⟨its',r',⟨o',n',e',_,_,d'⟩,_⟩:=I.list h'
  rw [e] at e';cases e'
  rw [d] at d'
  injection d' with d1 _
  have:its=its':=by simpa using congrArg Array.toList d1
  subst this
  exact r.inj r'
theorem Inv.tuple_inj (I:Inv X pins σ H s) (h:SqT X.K H a xs) (h':SqT X.K H a ys):xs=ys:=by
  obtain ⟨its,r,⟨o,e,_,n,d⟩,_⟩:=I.tuple h
  obtain ⟨its',r',⟨o',e',_,n',d'⟩,_⟩:=I.tuple h'
  rw [e] at e';cases e'
  rw [d] at d'
  injection d' with d1 _
  have:its=its':=by simpa using congrArg Array.toList d1
  subst this
  exact r.inj r'
end
abbrev Cx.wish (X:Cx) (E:Value→Shared→Prop):Cx:={ X with xe:=E }
abbrev Cx.nox (X:Cx):Cx:=X.wish fun _ _=>False
theorem Cx.Ok.wish {X:Cx} (ok:X.Ok) (E:Value→Shared→Prop):(X.wish E).Ok:=
  ⟨ok.mod,ok.kind,ok.glob,ok.blt,ok.above,ok.inj,ok.has,ok.cab,ok.hd,ok.frames,ok.stk,ok.exf,ok.bs,ok.bsz,ok.noex,ok.exfs,ok.funs,ok.frf⟩
theorem Cx.Ok.unwish {X:Cx} {E:Value→Shared→Prop} (ok:(X.wish E).Ok):X.Ok:=
  ⟨ok.mod,ok.kind,ok.glob,ok.blt,ok.above,ok.inj,ok.has,ok.cab,ok.hd,ok.frames,ok.stk,ok.exf,ok.bs,ok.bsz,ok.noex,ok.exfs,ok.funs,ok.frf⟩
section
variable {X:Cx} {pins:List (Addr×Obj)} {σ:St} {H:Hp} {s:Shared} {E:Value→Shared→Prop}
theorem Inv.wish (I:Inv X pins σ H s) (E:Value→Shared→Prop):Inv (X.wish E) pins σ H s:=⟨I.ok.wish E,I.os,I.bare,I.base,I.loc,I.cell,I.free,I.freeC,I.pin,I.hok,I.len⟩
theorem Inv.unwish (I:Inv (X.wish E) pins σ H s):Inv X pins σ H s:=⟨I.ok.unwish,I.os,I.bare,I.base,I.loc,I.cell,I.free,I.freeC,I.pin,I.hok,I.len⟩
theorem SP.unwish {D:Ends} {f:Flow} {s':Shared} (h:SP (X.wish E) pins D f s'):SP X pins D f s':=by
  cases f with
  | next=>obtain ⟨σ',H',I,q⟩:=h;exact ⟨σ',H',I.unwish,q⟩
  | brk=>obtain ⟨σ',H',I,q⟩:=h;exact ⟨σ',H',I.unwish,q⟩
  | cont=>obtain ⟨σ',H',I,q⟩:=h;exact ⟨σ',H',I.unwish,q⟩
  | ret u=>obtain ⟨v,σ',H',I,r,q⟩:=h;exact ⟨v,σ',H',I.unwish,r,q⟩
theorem PSs.nox {st:List Stmt} {t:TS} (h:PSs X.nox st t):PSs X st t:=fun pins s σ H D I hw=>
  wpAny_mono (h pins s σ H D (I.wish _) hw) (fun _ _ q=>q.unwish) fun _ _ z=>False.elim z
end
section
variable {X:Cx} {st:Stmt} {rest:List Stmt} {t u:TS} {e:Expr} {te:TE} {pos:Pos}
def tNext:TS:=fun D σ H=>D.nx σ H
def tSeq (t u:TS):TS:=fun D σ H=>t { D with nx:=u D } σ H
theorem pss_nil:PSs X [] tNext:=fun _ _ σ H _ I h=>wpAny_execs_nil ⟨σ,H,I,h⟩
theorem pss_cons (h1:PS X st t) (h2:PSs X rest u):PSs X (st::rest) (tSeq t u):=by
  intro pins s σ H D I h
  refine wpAny_execs_cons (thn (h1 pins s σ H { D with nx:=u D } I h) fun f s1 q=>?_)
  cases f with
  | next=>
    obtain ⟨σ',H',I',q⟩:=q
    exact h2 pins s1 σ' H' D I' q
  | ret v=>exact q
  | brk=>exact q
  | cont=>exact q
theorem pss_one (h1:PS X st t):PSs X [st] t:=by
  intro pins s σ H D I h
  refine wpAny_execs_cons (thn (h1 pins s σ H D I h) fun f s1 q=>?_)
  cases f with
  | next=>exact wpAny_execs_nil q
  | ret v=>exact q
  | brk=>exact q
  | cont=>exact q
theorem Inv.quiet {pins:List (Addr×Obj)} {σ:St} {H:Hp} {s:Shared} (I:Inv X pins σ H s):interactive X.env=false:=by simp [interactive,I.ok.kind]
def tDrop (te:TE):TS:=fun D σ H=>te σ H fun _ H1=>D.nx σ H1
theorem ps_expr (he:PE X e te) (hs:swapsWith e none pos.line X.env=pure false:=by rfl):PS X (.Expr e pos) (tDrop te):=by
  intro pins s σ H D I h
  exact wpAny_Expr_any (thn (he pins s σ H _ I h) fun v s1 ⟨x,H1,I1,r1,q1⟩=>⟨σ,H1,I1,q1⟩) I.quiet hs
def tRet (te:TE):TS:=fun D σ H=>te σ H D.rt
theorem ps_ret (he:PE X e te):PS X (.Return (some e) pos) (tRet te):=by
  intro pins s σ H D I h
  exact wpAny_Return_some (thn (he pins s σ H _ I h) fun v s1 ⟨x,H1,I1,r1,q1⟩=>⟨x,σ,H1,I1,r1,q1⟩)
def tIfS (c:TT) (t u:TS):TS:=fun D σ H=>c σ H fun b H1=>if b=true then t D σ H1 else u D σ H1
theorem ps_if {c:Expr} {a b:List Stmt} {tc:TT} (hc:PT X c tc) (ha:PSs X a t) (hb:PSs X b u):PS X (.If c a b pos) (tIfS tc t u):=by
  intro pins s σ H D I h
  refine wpAny_If (thn (hc pins s σ H _ I h) fun d s1 ⟨H1,I1,q1⟩=>?_)
  cases d with
  | true=>exact ha pins s1 σ H1 D I1 q1
  | false=>exact hb pins s1 σ H1 D I1 q1
end
abbrev TG:=V→St→Hp→(St→Hp→Prop)→Prop
abbrev TGs:=List V→St→Hp→(St→Hp→Prop)→Prop
def PG (X:Cx) (target:Expr) (t:TG):Prop:=
  ∀ (pins:List (Addr×Obj)) (s:Shared) (σ:St) (H:Hp) (v:V) (u:Value) (Q:St→Hp→Prop),Inv X pins σ H s→RelV v u→t v σ H Q→
    wpAny (model X.prog X.w) X.A (assign target X.env u) (fun _ s'=>∃ σ' H',Inv X pins σ' H' s'∧Q σ' H') X.xe s
def PGs (X:Cx) (ts:List Expr) (t:TGs):Prop:=
  ∀ (pins:List (Addr×Obj)) (s:Shared) (σ:St) (H:Hp) (vs:List V) (us:List Value) (Q:St→Hp→Prop),Inv X pins σ H s→Vals vs us→t vs σ H Q→
    wpAny (model X.prog X.w) X.A (assignInOrder ((assignEach ts X.env).map (·.2)) us) (fun _ s'=>∃ σ' H',Inv X pins σ' H' s'∧Q σ' H') X.xe s
abbrev TIp:=V→V→Hp→VK→Prop
def PIp (X:Cx) (op:Operator) (t:TIp):Prop:=
  ∀ (pins:List (Addr×Obj)) (s:Shared) (σ:St) (H:Hp) (x y:V) (v u:Value) (Q:VK),Inv X pins σ H s→RelV x v→RelV y u→t x y H Q→
    wpAny (model X.prog X.w) X.A (inplaceOp op v u) (EP X pins σ Q) X.xe s
section
variable {X:Cx} {pos:Pos}
def gName (i:Nat):TG:=fun v σ H Q=>Q (σ.set i (some v)) H
theorem pg_name {i:Nat} {x:Str} (hN:X.N.Nodup) (hi:X.N[i]?=some x) (hx:Loc X.env.scope x) (hf:X.fn x=true∨X.env.scope.names.lookup x=some .local:=by first | exact .inl rfl | exact .inr rfl | assumption):PG X (.Name x pos) (gName i):=by
  intro pins s σ H v u Q I r h
  exact wpAny_assign_Name (store_ok I hN hi hx r (fun s' I'=>⟨_,H,I',h⟩) hf)
def gNil:TGs:=fun vs σ H Q=>vs=[]∧Q σ H
def gCons (t:TG) (u:TGs):TGs:=fun vs σ H Q=>∃ v r,vs=v::r∧t v σ H fun σ' H'=>u r σ' H' Q
theorem pgs_nil:PGs X [] gNil:=by
  intro pins s σ H vs us Q I r h
  obtain ⟨e,h⟩:=h
  subst e
  cases r
  exact assignInOrder_nil ⟨σ,H,I,h⟩
theorem pgs_cons {e:Expr} {es:List Expr} {t:TG} {u:TGs} (h1:PG X e t) (h2:PGs X es u)
    (hs:(assignEach (e::es) X.env).map (·.2)=assign e X.env::(assignEach es X.env).map (·.2):=by rfl):PGs X (e::es) (gCons t u):=by
  intro pins s σ H vs us Q I r h
  obtain ⟨v,vr,e1,h⟩:=h
  subst e1
  cases r with
  | cons r rr=>
    rw [hs]
    refine assignInOrder_cons (thn (h1 pins s σ H _ _ _ I r h) fun _ s1 ⟨σ1,H1,I1,q1⟩=>?_)
    exact h2 pins s1 σ1 H1 _ _ Q I1 rr q1
def gTup (K:PySem.W.Frag) (n:Nat) (t:TGs):TG:=fun v σ H Q=>∃ a xs,v=.ref a∧SqT K H a xs∧xs.length=n∧t xs σ H Q
theorem pg_tup {es:List Expr} {k:Nat} {t:TGs} {n:Nat} (hc:X.calm=true) (h:PGs X es t)
    (hn:(assignEach es X.env).length=n:=by rfl) (hst:(assignEach es X.env).findIdx? (·.1)=none:=by rfl):PG X (.Tuple es k pos) (gTup X.K n t):=by
  intro pins s σ H v u Q I r hw
  obtain ⟨a,xs,e1,hq,hl,hw⟩:=hw
  subst e1
  cases r
  obtain ⟨its,rv,ht,hz⟩:=I.tuple hq
  refine assign_Tuple_tuple (I.ok.hd hc) ht (by simp [hn,← hl,rv.length]) hst fun h' hx=>?_
  have I1:Inv X pins σ H { s with heap:=h' }:=I.kept (t':=s.toks) fun b o e=>hx b o (Nat.ne_of_lt (Heap.lt_size e)) e
  exact h pins _ σ H xs _ Q I1 (by simpa using rv) hw
def tAsg (te:TE) (g:TG):TS:=fun D σ H=>te σ H fun x H1=>g x σ H1 D.nx
theorem ps_asg {tg e:Expr} {te:TE} {g:TG} (he:PE X e te) (hg:PG X tg g) (hs:swapsWithSole [tg] e pos.line X.env=pure false:=by rfl) (hw:swappedStores [tg] e X.env=pure none:=by rfl)
    (h1:(assignEach [tg] X.env).map (·.2)=[assign tg X.env]:=by rfl):PS X (.Assign [tg] e pos) (tAsg te g):=by
  intro pins s σ H D I h
  refine wpAny_Assign_stores (thn (he pins s σ H _ I h) fun v s1 ⟨x,H1,I1,r1,q1⟩=>?_) hs hw
  rw [h1]
  exact thn (hg pins s1 σ H1 x v _ I1 r1 q1) fun _ s2 q=>q
theorem ps_set {i:Nat} {x:Str} {e:Expr} {te:TE} {pos':Pos} (hN:X.N.Nodup) (hi:X.N[i]?=some x) (hx:Loc X.env.scope x) (he:PE X e te) (hs:swapsWith e (some (.Name x pos')) pos.line X.env=pure false:=by rfl) (hf:X.fn x=true∨X.env.scope.names.lookup x=some .local:=by first | exact .inl rfl | exact .inr rfl | assumption) :
    PS X (.Assign [.Name x pos'] e pos) (tAsg te (gName i)):=by
  intro pins s σ H D I h
  refine wpAny_Assign_Name (thn (he pins s σ H _ I h) fun v s1 ⟨y,H1,I1,r1,q1⟩=>?_) hs
  exact store_ok I1 hN hi hx r1 (fun s2 I2=>⟨_,H1,I2,q1⟩) hf
def tPar (i j:Nat) (ta:TA):TS:=fun D σ H=>ta σ H fun vs H1=>∃ v w,vs=[v,w]∧D.nx ((σ.set i (some v)).set j (some w)) H1
theorem ps_par {i j:Nat} {x y:Str} {a b:Expr} {ta:TA} {px py pt:Pos} {kt k2 pt2} (hc:X.calm=true) (hN:X.N.Nodup) (hi:X.N[i]?=some x) (hj:X.N[j]?=some y) (hij:i≠j)
    (hx:X.env.scope.names.lookup x=some .local) (hy:X.env.scope.names.lookup y=some .local) (ha:PA X [a,b] ta)
    (hw:swappedStores [.Tuple [.Name x px,.Name y py] kt pt] (.Tuple [a,b] k2 pt2) X.env=pure (some [x,y]))
    (hs:swapsWithSole [.Tuple [.Name x px,.Name y py] kt pt] (.Tuple [a,b] k2 pt2) pos.line X.env=pure false:=by rfl) :
    PS X (.Assign [.Tuple [.Name x px,.Name y py] kt pt] (.Tuple [a,b] k2 pt2) pos) (tPar i j ta):=by
  intro pins s σ H D I h
  rw [exec_Assign_arm]
  refine wpAny_bind (wpAny_standAt ?_)
  rw [hs]
  refine wpAny_bind (wpAny_pure ?_)
  rw [if_neg (by decide)]
  refine wpAny_bind (Tuple_ (thn (ha _ pins s σ H _ I h) fun us s1 ⟨vs,H1,I1,r1,q1⟩=>?_))
  obtain ⟨v,w,e1,q1⟩:=q1
  subst e1
  obtain ⟨u1,u2,rfl,rv,rw'⟩:∃ u1 u2,us=[u1,u2]∧RelV v u1∧RelV w u2:=by
    cases r1 with
    | cons p q=>
      cases q with
      | cons p' q'=>
        cases q'
        exact ⟨_,_,rfl,p,p'⟩
  refine wpAny_newObj_type ?_ (by show 2≤sizeLine;decide)
  have I2:Inv X pins σ H1 { s1 with heap:=s1.heap.push { cls:=.type "tuple",data:=.seq [u1,u2].toArray } }:=I1.kept (t':=s1.toks) fun b o e=>Heap.get?_push_of_some _ e
  rw [hw]
  refine wpAny_bind (wpAny_pure ?_)
  show wpAny (model X.prog X.w) X.A (do rule "assign.swapped-stores";let items ← unpackItems (.ref s1.heap.objs.size) 2 none;assignInOrder [fun v=>bindName X.env y v,fun v=>bindName X.env x v] items.reverse;pure Flow.next) _ _ _
  refine wpAny_bind (wpAny_rule (wpAny_bind (unpackItems_tuple (items:=#[u1,u2]) (I.ok.hd hc) (IsTup.new s1.heap _) fun h' hx'=>?_)))
  have I3:=I2.kept (h':=h') (t':=s1.toks) fun b o e=>hx' b o (Nat.ne_of_lt (Heap.lt_size e)) e
  show wpAny _ _ (assignInOrder [fun v=>bindName X.env y v,fun v=>bindName X.env x v] [u2,u1] >>= fun _=>pure Flow.next) _ _ _
  refine wpAny_bind (assignInOrder_cons (wpAny_bindName (store_ok I3 hN hj (.inl hy) rw' (fun s2 I4=>?_) (.inr hy))))
  refine assignInOrder_cons (wpAny_bindName (store_ok I4 hN hi (.inl hx) rv (fun s3 I5=>assignInOrder_nil (wpAny_pure ?_)) (.inr hx)))
  rw [List.set_comm _ _ (Ne.symm hij)] at I5
  exact ⟨_,H1,I5,q1⟩
def tAug (i:Nat) (te:TE) (ti:TIp):TS:=fun D σ H=>∃ x,σ[i]?=some (some x)∧te σ H fun y H1=>ti x y H1 fun z H2=>D.nx (σ.set i (some z)) H2
theorem ps_aug {i:Nat} {x:Str} {e:Expr} {te:TE} {op:Operator} {ti:TIp} {pos':Pos} (hN:X.N.Nodup) (hi:X.N[i]?=some x) (hx:Loc X.env.scope x) (he:PE X e te) (ho:PIp X op ti) (hf:X.fn x=true∨X.env.scope.names.lookup x=some .local:=by first | exact .inl rfl | exact .inr rfl | assumption) :
    PS X (.AugAssign (.Name x pos') op e pos) (tAug i te ti):=by
  intro pins s σ H D I h
  obtain ⟨v,e1,h⟩:=h
  obtain ⟨m,hn,hl⟩:=I.loc
  have vis:Vis X.env.scope x:=by rcases hx with k | k;exact .inl k;exact .inr (.inl k)
  obtain ⟨u,r,l⟩:=hl i x v hi e1 vis
  refine wpAny_AugAssign_Name ?_
  have go:wpAny (model X.prog X.w) X.A (eval e X.env) (fun w s₂=>wpAny (model X.prog X.w) X.A (inplaceOp op u w) (fun r s₃=>wpAny (model X.prog X.w) X.A (storeName X.env x r) (fun _=>SP X pins D .next) X.xe s₃) X.xe s₂) X.xe s:=by
    refine thn (he pins s σ H _ I h) fun w s1 ⟨y,H1,I1,r1,q1⟩=>?_
    refine thn (ho pins s1 σ H1 v y u w _ I1 r r1 q1) fun z s2 ⟨zv,H2,I2,r2,q2⟩=>?_
    exact store_ok I2 hN hi hx r2 (fun s3 I3=>⟨_,H2,I3,q2⟩) hf
  rcases l with ⟨hk,hm⟩ | ⟨hk,c,hc,hcell⟩
  · exact wpAny_loadName_local I.ok.kind hk hn hm go
  · rcases hk with hk | hk
    · exact wpAny_loadName_cell I.ok.kind hk hc hcell go
    · rcases hx with k | k
      · have:X.env.scope.names.lookup x=some .free:=hk
        rw [k] at this;cases this
      · have:X.env.scope.names.lookup x=some .free:=hk
        rw [k] at this;cases this
end
section
variable {X:Cx} {pos:Pos}
end
structure It where
  go:Nat→Hp→Prop
  yld:Nat→Hp→V→Hp→Prop
  stop:Nat→Hp→Prop
def FpOk (X:Cx) (pins:List (Addr×Obj)) (H:Hp) (b:Addr):Prop:=
  H b=none∧b≠X.env.locals∧b∉X.fs∧(b∈X.ex∨X.s₀.heap.objs.size≤b)∧(∀ x c,X.env.cells.lookup x=some c→c≠b)∧∀ p∈X.pn++pins,p.1≠b
theorem Inv.fpOk {X:Cx} {pins:List (Addr×Obj)} {σ:St} {H H':Hp} {s:Shared} {b:Addr} (I:Inv X pins σ H s) (hb:s.heap.objs.size≤b) (hn:H' b=none):FpOk X pins H' b:=by
  refine ⟨hn,Nat.ne_of_gt (Nat.lt_of_lt_of_le I.lt hb),I.nofs hb,.inr (Nat.le_trans I.sz hb),fun x c e z=>?_,fun p hp z=>?_⟩
  · obtain ⟨v,q⟩:=I.cell x c e
    exact absurd (Nat.lt_of_lt_of_le q.lt (by rw [z];exact hb)) (Nat.lt_irrefl _)
  · exact absurd (Nat.lt_of_lt_of_le (Heap.lt_size (I.pin p hp).1) (by rw [z];exact hb)) (Nat.lt_irrefl _)
structure Turn (P:Program) (w:World) (K:PySem.W.Frag) (tg:Expr) (J:It) (fp:List Addr) (it:Addr) (tn:Nat→Heap→Prop):Prop where
  mem:it∈fp
  obj:∀ i h,tn i h→∀ b∈fp,∃ o,h.get? b=some o∧∀ v,o.data≠.cell v
  keep:∀ i h h',tn i h→(∀ b∈fp,∀ o,h.get? b=some o→h'.get? b=some o)→tn i h'
  item:∀ (X:Cx),X.prog=P→X.w=w→X.K=K→X.calm=true→∀ (i:Nat) (pins:List (Addr×Obj)) (s:Shared) (σ:St) (H:Hp) (E:Value→Shared→Prop),Inv X pins σ H s→(∀ b∈fp,FpOk X pins H b)→tn i s.heap→J.go i H→
    wpAny (model P w) X.A (pyNext (.ref it)) (fun r s1=>∃ u,r=some u∧
      wpAny (model P w) X.A (letOwnedTupleGo tg (.ref it) u) (fun _ s2=>∃ x H',Inv X pins σ H' s2∧RelV x u∧J.yld i H x H'∧tn (i+1) s2.heap∧∀ b∈fp,H' b=none) E s1) E s
  done:∀ (X:Cx),X.prog=P→X.w=w→X.K=K→X.calm=true→∀ (i:Nat) (pins:List (Addr×Obj)) (s:Shared) (σ:St) (H:Hp) (E:Value→Shared→Prop),Inv X pins σ H s→(∀ b∈fp,FpOk X pins H b)→tn i s.heap→J.stop i H→
    wpAny (model P w) X.A (pyNext (.ref it)) (fun r s1=>r=none∧Inv X pins σ H s1) E s
  self:∀ (A:Around) (i:Nat) (s:Shared) (Q:Value→Shared→Prop) (E:Value→Shared→Prop),tn i s.heap→Q (.ref it) s→wpAny (model P w) A (pyIter (.ref it)) Q E s
abbrev TI:=St→Hp→(It→Hp→Prop)→Prop
def PIE (X:Cx) (pins:List (Addr×Obj)) (σ:St) (tg:Expr) (R:It→Hp→Prop) (itv:Value) (s2:Shared):Prop:=
  ∃ (it:Addr) (fp:List Addr) (tn:Nat→Heap→Prop) (J:It) (H':Hp),itv=.ref it∧Inv X pins σ H' s2∧Turn X.prog X.w X.K tg J fp it tn∧tn 0 s2.heap∧(∀ b∈fp,FpOk X pins H' b)∧R J H'
def PI (X:Cx) (tg iter:Expr) (wi:TI):Prop:=
  ∀ (pins:List (Addr×Obj)) (s:Shared) (σ:St) (H:Hp) (R:It→Hp→Prop),Inv X pins σ H s→wi σ H R→
    wpAny (model X.prog X.w) X.A (eval iter X.env) (fun v s1=>wpAny (model X.prog X.w) X.A (pyIter v) (PIE X pins σ tg R) X.xe s1) X.xe s
theorem go_of {M:Model} {A:Around} {E:Value→Shared→Prop} {s:Shared} {tg:Expr} {it:Addr} {u:Value} {o:Obj} {n:String} {vs:Array Value} {Q:Unit→Shared→Prop} (ho:s.heap.get? it=some o) (hc:o.cls=.type n) (hd:o.data=.fields vs)
    (hn:["enumerate","zip","dict_itemiterator","dict_reverseitemiterator","odict_iterator","itertools.zip_longest","itertools.pairwise"].contains n=false) (hQ:Q () s):wpAny M A (letOwnedTupleGo tg (.ref it) u) Q E s:=by
  unfold letOwnedTupleGo
  cases tg<;>first
    | exact wpAny_pure hQ
    | (cases u<;>first
        | exact wpAny_pure hQ
        | (refine wpAny_bind (wpAny_load ho ?_)
           rw [hc,hd]
           show wpAny M A (if (["enumerate","zip","dict_itemiterator","dict_reverseitemiterator","odict_iterator","itertools.zip_longest","itertools.pairwise"].contains n&&vs[0]?==some (rawInt _))=true then _ else _) Q E s
           rw [if_neg (by intro h;rw [hn,Bool.false_and] at h;cases h)]
           exact wpAny_pure hQ))
def Itl (K:PySem.W.Frag) (a:Addr):It:=
  ⟨fun i H=>∃ xs x,SqL K H a xs∧xs[i]?=some x,fun i H x H'=>H'=H∧∀ xs,SqL K H a xs→xs[i]?=some x,fun i H=>∃ xs,SqL K H a xs∧xs.length≤i⟩
def Itt (K:PySem.W.Frag) (a:Addr):It:=
  ⟨fun i H=>∃ xs x,SqT K H a xs∧xs[i]?=some x,fun i H x H'=>H'=H∧∀ xs,SqT K H a xs→xs[i]?=some x,fun i H=>∃ xs,SqT K H a xs∧xs.length≤i⟩
def Itr (lo:Int) (n:Nat):It:=⟨fun i _=>i<n,fun i H x H'=>H'=H∧x=.int (lo+i),fun i _=>n≤i⟩
theorem turn_list {P:Program} {w:World} {K:PySem.W.Frag} {tg:Expr} (a it:Addr):Turn P w K tg (Itl K a) [it] it (fun i h=>h.IsListIter it a i) where
  mem:=by simp
  obj:=fun i h st b hb=>by
    have e:b=it:=by simpa using hb
    subst e
    obtain ⟨o,e,c,d⟩:=st
    exact ⟨o,e,fun v z=>by rw [d] at z;cases z⟩
  keep:=fun i h h' st k=>st.at fun o e=>k it (by simp) o e
  item:=by
    intro X hP hw hK hc i pins s σ H E I hf st hg
    subst hP hw hK
    obtain ⟨xs,x,hq,hx⟩:=hg
    obtain ⟨its,rv,p,hz⟩:=I.list hq
    obtain ⟨u,hu,ru⟩:=rv.get hx
    obtain ⟨f0,f1,f2,f3,f4,f5⟩:=hf it (by simp)
    refine wpAny_pyNext_list_item st p.isList (x:=u) (by simpa using hu) fun h' st' sb=>?_
    have I1:Inv X pins σ H { s with heap:=h' }:=I.turned (t':=s.toks) (fun b o hb e=>(sb.2 b hb).trans e) f0 f1 f3 f4 f5
    obtain ⟨o,e,c,d⟩:=id st'
    exact ⟨u,rfl,go_of (s:={ s with heap:=h' }) e c d (by decide) ⟨x,H,I1,ru,⟨rfl,fun ys hy=>by rw [I.list_inj hy hq];exact hx⟩,st',fun b hb=>(hf b hb).1⟩⟩
  done:=by
    intro X hP hw hK hc i pins s σ H E I hf st hg
    subst hP hw hK
    obtain ⟨xs,hq,hx⟩:=hg
    obtain ⟨its,rv,p,hz⟩:=I.list hq
    obtain ⟨f0,f1,f2,f3,f4,f5⟩:=hf it (by simp)
    have hl:=rv.length
    exact wpAny_pyNext_list_end (I.ok.hd hc) st p.isList (by simp;omega) fun h' eb=>⟨rfl,I.turned (t':=s.toks) (fun b o hb e=>eb b o hb e) f0 f1 f3 f4 f5⟩
  self:=fun _ _ _ _ _ st h=>wpAny_pyIter_listiter st h
theorem turn_tuple {P:Program} {w:World} {K:PySem.W.Frag} {tg:Expr} (a it:Addr):Turn P w K tg (Itt K a) [it] it (fun i h=>h.IsTupleIter it a i) where
  mem:=by simp
  obj:=fun i h st b hb=>by
    have e:b=it:=by simpa using hb
    subst e
    obtain ⟨o,e,c,d⟩:=st
    exact ⟨o,e,fun v z=>by rw [d] at z;cases z⟩
  keep:=fun i h h' st k=>st.at fun o e=>k it (by simp) o e
  item:=by
    intro X hP hw hK hc i pins s σ H E I hf st hg
    subst hP hw hK
    obtain ⟨xs,x,hq,hx⟩:=hg
    obtain ⟨its,rv,p,hz⟩:=I.tuple hq
    obtain ⟨u,hu,ru⟩:=rv.get hx
    obtain ⟨f0,f1,f2,f3,f4,f5⟩:=hf it (by simp)
    refine wpAny_pyNext_tuple_item st (show s.heap.IsTuple a its.toArray from p) (x:=u) (by simpa using hu) fun h' st' sb=>?_
    have I1:Inv X pins σ H { s with heap:=h' }:=I.turned (t':=s.toks) (fun b o hb e=>(sb.2 b hb).trans e) f0 f1 f3 f4 f5
    obtain ⟨o,e,c,d⟩:=id st'
    exact ⟨u,rfl,go_of (s:={ s with heap:=h' }) e c d (by decide) ⟨x,H,I1,ru,⟨rfl,fun ys hy=>by rw [I.tuple_inj hy hq];exact hx⟩,st',fun b hb=>(hf b hb).1⟩⟩
  done:=by
    intro X hP hw hK hc i pins s σ H E I hf st hg
    subst hP hw hK
    obtain ⟨xs,hq,hx⟩:=hg
    obtain ⟨its,rv,p,hz⟩:=I.tuple hq
    obtain ⟨f0,f1,f2,f3,f4,f5⟩:=hf it (by simp)
    have hl:=rv.length
    exact wpAny_pyNext_tuple_end (I.ok.hd hc) st (show s.heap.IsTuple a its.toArray from p) (by simp;omega) fun h' eb=>⟨rfl,I.turned (t':=s.toks) (fun b o hb e=>eb b o hb e) f0 f1 f3 f4 f5⟩
  self:=fun _ _ _ _ _ st h=>wpAny_pyIter_tupleiter st h
theorem turn_range {P:Program} {w:World} {K:PySem.W.Frag} {tg:Expr} (it:Addr) (lo:Int) (n:Nat):Turn P w K tg (Itr lo n) [it] it (fun i h=>IsRangeIter h it (lo+(i:Nat)*1) ((n:Int)-(i:Nat)) 1) where
  mem:=by simp
  obj:=fun i h st b hb=>by
    have e:b=it:=by simpa using hb
    subst e
    exact ⟨_,st,fun v z=>by
      have z':Data.fields _=Data.cell v:=z
      cases z'⟩
  keep:=fun i h h' st k=>k it (by simp) _ st
  item:=by
    intro X hP hw hK hc i pins s σ H E I hf st hg
    subst hP hw hK
    obtain ⟨f0,f1,f2,f3,f4,f5⟩:=hf it (by simp)
    have W:=Walks.range (prog:=X.prog) (w:=X.w) (I.ok.hd hc) it lo 1 n
    refine W.item i s _ _ hg st fun v h' tk hv st' kk=>?_
    obtain ⟨t,rfl⟩:=hv
    have I1:Inv X pins σ H { s with heap:=h',toks:=tk }:=I.turned (fun b o hb e=>kk b o (by simpa using hb) e) f0 f1 f3 f4 f5
    refine ⟨_,rfl,go_of (s:={ s with heap:=h',toks:=tk }) (n:="range_iterator") st' rfl rfl (by decide) ⟨.int (lo+i),H,I1,⟨t,?_⟩,⟨rfl,rfl⟩,st',fun b hb=>(hf b hb).1⟩⟩
    rw [Int.mul_one]
  done:=by
    intro X hP hw hK hc i pins s σ H E I hf st hg
    subst hP hw hK
    obtain ⟨f0,f1,f2,f3,f4,f5⟩:=hf it (by simp)
    exact wpAny_pyNext_range_end (I.ok.hd hc) st (by have:n≤i:=hg;omega) fun h' eb=>⟨rfl,I.turned (t':=s.toks) (fun b o hb e=>eb b o hb e) f0 f1 f3 f4 f5⟩
  self:=fun _ _ _ _ _ st h=>wpAny_pyIter_rangeiter st h
end L2
namespace L2
open PySem PySem.Spec PyProof.Rows
section
variable {X:Cx} {tg:Expr}
def iList (K:PySem.W.Frag) (tl:TE):TI:=fun σ H R=>tl σ H fun x H1=>∃ a,x=.ref a∧(∃ xs,SqL K H1 a xs)∧R (Itl K a) H1
def iTup (K:PySem.W.Frag) (tl:TE):TI:=fun σ H R=>tl σ H fun x H1=>∃ a,x=.ref a∧(∃ xs,SqT K H1 a xs)∧R (Itt K a) H1
theorem pi_list {l:Expr} {tl:TE} (hl:PE X l tl):PI X tg l (iList X.K tl):=by
  intro pins s σ H R I h
  refine thn (hl pins s σ H _ I h) fun v s1 ⟨x,H1,I1,r1,q1⟩=>?_
  obtain ⟨a,e,⟨xs,hq⟩,q⟩:=q1
  subst e
  cases r1
  obtain ⟨its,rv,p,hz⟩:=I1.list hq
  refine wpAny_pyIter_list p.isList ?_
  refine ⟨s1.heap.objs.size,[s1.heap.objs.size],_,_,H1,rfl,I1.kept (t':=s1.toks) fun b o e=>Heap.get?_push_of_some _ e,turn_list a _,⟨_,Heap.get?_push_size _ rfl,rfl,rfl⟩,fun b hb=>?_,q⟩
  have e:b=s1.heap.objs.size:=by simpa using hb
  subst e
  exact I1.fpOk (Nat.le_refl _) (I1.hok.fresh (Nat.le_refl _))
theorem pi_tup {l:Expr} {tl:TE} (hl:PE X l tl):PI X tg l (iTup X.K tl):=by
  intro pins s σ H R I h
  refine thn (hl pins s σ H _ I h) fun v s1 ⟨x,H1,I1,r1,q1⟩=>?_
  obtain ⟨a,e,⟨xs,hq⟩,q⟩:=q1
  subst e
  cases r1
  obtain ⟨its,rv,p,hz⟩:=I1.tuple hq
  refine wpAny_pyIter_tuple (show s1.heap.IsTuple a its.toArray from p) ?_
  refine ⟨s1.heap.objs.size,[s1.heap.objs.size],_,_,H1,rfl,I1.kept (t':=s1.toks) fun b o e=>Heap.get?_push_of_some _ e,turn_tuple a _,⟨_,Heap.get?_push_size _ rfl,rfl,rfl⟩,fun b hb=>?_,q⟩
  have e:b=s1.heap.objs.size:=by simpa using hb
  subst e
  exact I1.fpOk (Nat.le_refl _) (I1.hok.fresh (Nat.le_refl _))
theorem range_it {pins:List (Addr×Obj)} {σ:St} {H:Hp} {s:Shared} {R:It→Hp→Prop} {E:Value→Shared→Prop} {lo hi:Int} {t u v:Tok} {tk:Nat} (I:Inv X pins σ H s) (h1:-(2 ^ 62)≤lo) (h2:lo<2 ^ 62) (h3:-(2 ^ 62)≤hi) (h4:hi<2 ^ 62)
    (q:R (Itr lo (hi-lo).toNat) H):wpAny (model X.prog X.w) X.A (pyIter (.ref s.heap.objs.size)) (PIE X pins σ tg R) E { s with heap:=s.heap.push { cls:=.type "range",data:=.fields #[.int lo t,.int hi u,.int 1 v] },toks:=tk }:=by
  refine wpAny_pyIter_range (IsRange.new ..) (small_one h1 h2 h3 h4) ?_
  have I1:Inv X pins σ H { s with heap:=s.heap.push { cls:=.type "range",data:=.fields #[.int lo t,.int hi u,.int 1 v] },toks:=tk }:=I.kept fun b o e=>Heap.get?_push_of_some _ e
  refine ⟨(s.heap.push { cls:=.type "range",data:=.fields #[.int lo t,.int hi u,.int 1 v] }).objs.size,[(s.heap.push { cls:=.type "range",data:=.fields #[.int lo t,.int hi u,.int 1 v] }).objs.size],_,_,H,rfl,
    I1.kept (t':=tk) fun b o e=>Heap.get?_push_of_some _ e,turn_range _ lo (hi-lo).toNat,?_,fun b hb=>?_,q⟩
  · have e1:lo+((0:Nat):Int)*1=lo:=by simp
    have e2:(((hi-lo).toNat:Nat):Int)-((0:Nat):Int)=Builtin.Range.rangeSize lo hi 1:=by rw [rangeSize_one];split<;>omega
    show IsRangeIter _ _ (lo+((0:Nat):Int)*1) ((((hi-lo).toNat:Nat):Int)-((0:Nat):Int)) 1
    rw [e1,e2]
    exact Heap.get?_push_size _ rfl
  · have e:b=(s.heap.push { cls:=.type "range",data:=.fields #[.int lo t,.int hi u,.int 1 v] }).objs.size:=by simpa using hb
    subst e
    exact I1.fpOk (Nat.le_refl _) (I1.hok.fresh (Nat.le_refl _))
def iRng1 (ta:TA):TI:=fun σ H R=>ta σ H fun vs H1=>∃ j:Int,vs=[.int j]∧-(2 ^ 62)≤j∧j<2 ^ 62∧R (Itr 0 j.toNat) H1
theorem pi_range1 {a:Expr} {ta:TA} {p pos:Pos} (hg:Gl X "range") (hm:X.mg "range"=none) (ha:PA X [a] ta) (hs:starEach [a] X.env=[(false,eval a X.env)]:=by rfl):PI X tg (.Call (.Name "range" p) [a] [] pos) (iRng1 ta):=by
  intro pins s σ H R I h
  refine Call_ (ld_blt I hg hm boot_range (PyProof.Rows.callWith_type1 (thn (ha pos pins s σ H _ I h) fun us s1 ⟨vs,H1,I1,r1,q1⟩=>?_) hs rfl))
  obtain ⟨j,e,q1,q2,q⟩:=q1
  subst e
  cases r1 with
  | cons r rr=>
    cases rr
    obtain ⟨t,rfl⟩:=r
    exact call_range_1 (range_it I1 (by omega) (by omega) q1 q2 (by simpa using q))
def tFor (wi:TI) (g:TG) (tb:TS):TS:=fun D σ H=>wi σ H fun J H1=>∃ W:Nat→Nat→St→Hp→Prop,(∃ m,W 0 m σ H1)∧∀ i m σ H,W i m σ H→
  (J.stop i H∧D.nx σ H)∨(J.go i H∧∃ N:St→Hp→Prop,(∀ σ' H',N σ' H'→∃ m',m'<m∧W (i+1) m' σ' H')∧∀ x H',J.yld i H x H'→g x σ H' fun σ2 H2=>tb { D with nx:=N,ct:=N,bk:=D.nx } σ2 H2)
def pinsAt (fp:List Addr) (h:Heap):List (Addr×Obj):=fp.filterMap fun b=>(h.get? b).map fun o=>(b,o)
theorem mem_pinsAt {fp:List Addr} {h:Heap} {b:Addr} {o:Obj} (hb:b∈fp) (e:h.get? b=some o):(b,o)∈pinsAt fp h:=List.mem_filterMap.mpr ⟨b,hb,by rw [e];rfl⟩
theorem of_pinsAt {fp:List Addr} {h:Heap} {p:Addr×Obj} (hp:p∈pinsAt fp h):p.1∈fp∧h.get? p.1=some p.2:=by
  obtain ⟨b,hb,e⟩:=List.mem_filterMap.mp hp
  cases q:h.get? b with
  | none=>rw [q] at e;cases e
  | some o=>
    rw [q] at e
    have e':(b,o)=p:=Option.some.inj e
    subst e'
    exact ⟨hb,q⟩
theorem Inv.pinned {pins:List (Addr×Obj)} {σ:St} {H:Hp} {s:Shared} {fp:List Addr} (I:Inv X pins σ H s) (hf:∀ b∈fp,FpOk X pins H b) (ho:∀ b∈fp,∃ o,s.heap.get? b=some o∧∀ v,o.data≠.cell v):Inv X (pins++pinsAt fp s.heap) σ H s:=
  I.pins_of fun p hp=>(List.mem_append.mp hp).elim (fun z=>I.pin p (List.mem_append_right _ z)) fun z=>by
    obtain ⟨hb,e⟩:=of_pinsAt z
    obtain ⟨f0,f1,f2,_⟩:=hf p.1 hb
    obtain ⟨o,e',d⟩:=ho p.1 hb
    rw [e] at e';cases e'
    exact ⟨e,f0,f1,f2,d⟩
theorem Inv.unpinned {pins pl:List (Addr×Obj)} {σ:St} {H:Hp} {s:Shared} (I:Inv X (pins++pl) σ H s):Inv X pins σ H s:=I.pins_of fun p hp=>I.pin p (List.mem_append_right _ (List.mem_append_left _ hp))
theorem ps_for {iter:Expr} {body:List Stmt} {wi:TI} {g:TG} {tb:TS} {pos:Pos} (hp:PassesOwn (model X.prog X.w) X.A X.env X.xe) (hc:X.calm=true) (hi:PI X tg iter wi) (hg:PG X tg g) (hb:PSs X body tb)
    (hs:∀ x,foldedSetIterable iter X.env x=pure x:=by intro _;rfl):PS X (.For tg iter body [] pos) (tFor wi g tb):=by
  intro pins s σ H D I h
  refine wpAny_For (thn (hi pins s σ H _ I h) fun v s1 h1=>thn h1 fun itv s2 h2=>?_) hs
  obtain ⟨it,fp,tn,J,H2,e,I2,T,st2,f2,W,⟨m0,w0⟩,turn⟩:=h2
  subst e
  have stat:∀ {H':Hp},(∀ b∈fp,H' b=none)→∀ b∈fp,FpOk X pins H' b:=fun hn b hb=>⟨hn b hb,(f2 b hb).2⟩
  refine codeAny_forLoop_any (fun n s'=>∃ i σ' H',Inv X pins σ' H' s'∧tn i s'.heap∧(∀ b∈fp,H' b=none)∧W i n σ' H') ?_ m0 ⟨0,σ,H2,I2,st2,fun b hb=>(f2 b hb).1,w0⟩
  rintro n s3 ⟨i,σ3,H3,I3,st3,fr3,w3⟩
  rcases turn i n σ3 H3 w3 with ⟨stop,qn⟩ | ⟨go,N,hN,step⟩
  · refine wpAny_passesOwn hp (thn (T.done X rfl rfl rfl hc i pins s3 σ3 H3 X.xe I3 (stat fr3) st3 stop) fun r s4 ⟨hr,I4⟩=>?_)
    subst hr
    exact wpAny_execs_nil ⟨σ3,H3,I4,qn⟩
  · refine wpAny_passesOwn hp (thn (T.item X rfl rfl rfl hc i pins s3 σ3 H3 X.xe I3 (stat fr3) st3 go) fun r s4 ⟨u,hr,h4⟩=>?_)
    subst hr
    refine wpAny_passesOwn hp (thn h4 fun _ s5 ⟨x,H5,I5,r5,y5,st5,fr5⟩=>?_)
    have I5':=I5.pinned (stat fr5) (T.obj _ _ st5)
    refine wpAny_passesOwn hp (thn (hg _ s5 σ3 H5 x u _ I5' r5 (step x H5 y5)) fun _ s6 ⟨σ6,H6,I6,q6⟩=>?_)
    refine wpAny_passesOwn hp (thn (hb _ s6 σ6 H6 _ I6 q6) fun f s7 q7=>?_)
    have again:∀ {σ7:St} {H7:Hp},Inv X (pins++pinsAt fp s5.heap) σ7 H7 s7→N σ7 H7→∃ m,m<n∧∃ i σ' H',Inv X pins σ' H' s7∧tn i s7.heap∧(∀ b∈fp,H' b=none)∧W i m σ' H':=fun {σ7 H7} I7 n7=>by
      obtain ⟨m',hm,w7⟩:=hN σ7 H7 n7
      refine ⟨m',hm,i+1,σ7,H7,I7.unpinned,T.keep _ _ _ st5 fun b hb o e=>(I7.pin (b,o) (List.mem_append_right _ (List.mem_append_right _ (mem_pinsAt hb e)))).1,fun b hb=>?_,w7⟩
      obtain ⟨o,e,d⟩:=T.obj _ _ st5 b hb
      exact (I7.pin (b,o) (List.mem_append_right _ (List.mem_append_right _ (mem_pinsAt hb e)))).2.1
    cases f with
    | next=>obtain ⟨σ7,H7,I7,n7⟩:=q7;exact again I7 n7
    | cont=>obtain ⟨σ7,H7,I7,n7⟩:=q7;exact again I7 n7
    | brk=>obtain ⟨σ7,H7,I7,q7⟩:=q7;exact ⟨σ7,H7,I7.unpinned,q7⟩
    | ret v=>obtain ⟨x7,σ7,H7,I7,r7,q7⟩:=q7;exact ⟨x7,σ7,H7,I7.unpinned,r7,q7⟩
end
end L2
namespace L2
open PySem PySem.Spec PyProof.Rows
abbrev R2:=V→V→Hp→VK→Prop
def OpR (X:Cx) (f:Value→Value→Sem Value) (r:R2):Prop:=
  ∀ (pins:List (Addr×Obj)) (s:Shared) (σ:St) (H:Hp) (x y:V) (v u:Value) (Q:VK),Inv X pins σ H s→RelV x v→RelV y u→r x y H Q→
    wpAny (model X.prog X.w) X.A (f v u) (EP X pins σ Q) X.xe s
def CallR (X:Cx) (f:Value) (r:List V→Hp→VK→Prop):Prop:=
  ∀ (pins:List (Addr×Obj)) (s:Shared) (σ:St) (H:Hp) (xs:List V) (us:List Value) (Q:VK),Inv X pins σ H s→Vals xs us→r xs H Q→
    wpAny (model X.prog X.w) X.A (call f us) (EP X pins σ Q) X.xe s
def tOp (r:R2) (ta tb:TE):TE:=fun σ H Q=>ta σ H fun x H1=>tb σ H1 fun y H2=>r x y H2 Q
def rI (C:Int→Int→Prop) (g:Int→Int→V):R2:=fun x y H Q=>∃ i j,x=.int i∧y=.int j∧C i j∧Q (g i j) H
def rI0 (g:Int→Int→V):R2:=fun x y H Q=>∃ i j,x=.int i∧y=.int j∧Q (g i j) H
section
variable {X:Cx} {a b c:Expr} {ta tb tc:TE} {pos:Pos}
theorem binT (ha:PE X a ta) (hb:PE X b tb) {pins:List (Addr×Obj)} {s:Shared} {σ:St} {H:Hp} {R:V→V→Hp→Prop} (I:Inv X pins σ H s)
    (h:ta σ H fun x H1=>tb σ H1 fun y H2=>R x y H2) {Q:Value→Shared→Prop} {f:Value→Value→Sem Value}
    (hf:∀ v u s2 x y H2,Inv X pins σ H2 s2→RelV x v→RelV y u→R x y H2→wpAny (model X.prog X.w) X.A (f v u) Q X.xe s2) :
    wpAny (model X.prog X.w) X.A (eval a X.env) (fun v s₁=>wpAny (model X.prog X.w) X.A (eval b X.env) (fun u s₂=>wpAny (model X.prog X.w) X.A (f v u) Q X.xe s₂) X.xe s₁) X.xe s:=by
  refine thn (ha pins s σ H _ I h) fun v s1 ⟨x,H1,I1,r1,q1⟩=>?_
  refine thn (hb pins s1 σ H1 _ I1 q1) fun u s2 ⟨y,H2,I2,r2,q2⟩=>?_
  exact hf v u s2 x y H2 I2 r1 r2 q2
theorem pe_op {op:Operator} {r:R2} (ho:OpR X (binaryOp op) r) (ha:PE X a ta) (hb:PE X b tb):PE X (.BinOp a op b pos) (tOp r ta tb):=by
  intro pins s σ H Q I h
  exact wpAny_BinOp (binT ha hb I h fun v u s2 x y H2 I2 rx ry q=>ho pins s2 σ H2 x y v u Q I2 rx ry q)
theorem opI {f:Value→Value→Sem Value} {C:Int→Int→Prop} {g:Int→Int→Int}
    (rule:∀ (i j:Int) (t u:Tok) (s:Shared) (Q:Value→Shared→Prop) (E:Value→Shared→Prop),C i j→Q (.int (g i j) s.toks) { s with toks:=s.toks+1 }→wpAny (model X.prog X.w) X.A (f (.int i t) (.int j u)) Q E s) :
    OpR X f (rI C fun i j=>.int (g i j)):=by
  intro pins s σ H x y v u Q I rx ry h
  obtain ⟨i,j,rfl,rfl,hc,q⟩:=h
  obtain ⟨t,rfl⟩:=rx
  obtain ⟨t',rfl⟩:=ry
  exact rule i j t t' s _ _ hc ⟨.int (g i j),H,I.tok _,⟨_,rfl⟩,q⟩
theorem opI0 {f:Value→Value→Sem Value} {g:Int→Int→Int}
    (rule:∀ (i j:Int) (t u:Tok) (s:Shared) (Q:Value→Shared→Prop) (E:Value→Shared→Prop),Q (.int (g i j) s.toks) { s with toks:=s.toks+1 }→wpAny (model X.prog X.w) X.A (f (.int i t) (.int j u)) Q E s) :
    OpR X f (rI0 fun i j=>.int (g i j)):=by
  intro pins s σ H x y v u Q I rx ry h
  obtain ⟨i,j,rfl,rfl,q⟩:=h
  obtain ⟨t,rfl⟩:=rx
  obtain ⟨t',rfl⟩:=ry
  exact rule i j t t' s _ _ ⟨.int (g i j),H,I.tok _,⟨_,rfl⟩,q⟩
theorem opB0 {f:Value→Value→Sem Value} {g:Int→Int→Bool}
    (rule:∀ (i j:Int) (t u:Tok) (s:Shared) (Q:Value→Shared→Prop) (E:Value→Shared→Prop),Q (.bool (g i j)) s→wpAny (model X.prog X.w) X.A (f (.int i t) (.int j u)) Q E s) :
    OpR X f (rI0 fun i j=>.bl (g i j)):=by
  intro pins s σ H x y v u Q I rx ry h
  obtain ⟨i,j,rfl,rfl,q⟩:=h
  obtain ⟨t,rfl⟩:=rx
  obtain ⟨t',rfl⟩:=ry
  exact rule i j t t' s _ _ ⟨.bl (g i j),H,I,rfl,q⟩
def CDiv (i j:Int):Prop:=0<j∧j<1073741824
theorem op_add:OpR X (binaryOp .Add) (rI0 fun i j=>.int (i+j)):=opI0 fun _ _ _ _ _ _ _ q=>add_int q
theorem op_sub:OpR X (binaryOp .Sub) (rI0 fun i j=>.int (i-j)):=opI0 fun _ _ _ _ _ _ _ q=>sub_int q
theorem op_fdiv:OpR X (binaryOp .FloorDiv) (rI CDiv fun i j=>.int (i/j)):=opI fun i j _ _ _ _ _ hc q=>by
  have h1:(0:Int)<j:=hc.1
  have h2:j<1073741824:=hc.2
  exact floordiv_int (by omega) (by rw [Int.fdiv_eq_ediv_of_nonneg i (by omega)];exact q) (.inl (PyProof.noPylong_small (by omega)))
theorem op_mod:OpR X (binaryOp .Mod) (rI (fun _ j=>0<j) fun i j=>.int (i%j)):=opI fun i j _ _ _ _ _ hc q=>by
  have h1:(0:Int)<j:=hc
  exact mod_int' (by omega) (by rw [Int.fmod_eq_emod_of_nonneg i (by omega)];exact q)
end
section
variable {X:Cx} {a b c:Expr} {ta tb tc:TE} {pos:Pos}
theorem op_lt:OpR X (compareOp .Lt) (rI0 fun i j=>.bl (decide (i<j))):=opB0 fun _ _ _ _ _ _ _ q=>lt_int q
theorem op_le:OpR X (compareOp .LtE) (rI0 fun i j=>.bl (decide (i≤j))):=opB0 fun _ _ _ _ _ _ _ q=>le_int q
theorem op_gt:OpR X (compareOp .Gt) (rI0 fun i j=>.bl (decide (j<i))):=opB0 fun _ _ _ _ _ _ _ q=>gt_int q
theorem op_ge:OpR X (compareOp .GtE) (rI0 fun i j=>.bl (decide (j≤i))):=opB0 fun _ _ _ _ _ _ _ q=>ge_int q
theorem nomark (b:Expr) {op:CmpOp} (h:op≠.In:=by decide) (h2:op≠.NotIn:=by decide):behindInMarks op b=false:=by
  have e1:(op==CmpOp.In)=false:=by cases op<;>first | rfl | exact absurd rfl h
  have e2:(op==CmpOp.NotIn)=false:=by cases op<;>first | rfl | exact absurd rfl h2
  cases b<;>simp [behindInMarks,e1,e2]
theorem pe_cmpR {op:CmpOp} {r:R2} (ho:OpR X (compareOp op) r) (ha:PE X a ta) (hb:PE X b tb) (hm:behindInMarks op b=false):PE X (.Compare a [op] [b] pos) (tOp r ta tb):=by
  intro pins s σ H Q I h
  exact wpAny_Compare1 (binT ha hb I h fun v u s2 x y H2 I2 rx ry q=>ho pins s2 σ H2 x y v u Q I2 rx ry q) hm
def tTest (t:TE):TT:=fun σ H Q=>t σ H fun x H'=>∃ k,x=.bl k∧Q k H'
theorem pt_cmpR {op:CmpOp} {r:R2} (ho:OpR X (compareOp op) r) (ha:PE X a ta) (hb:PE X b tb) (hm:behindInMarks op b=false):PT X (.Compare a [op] [b] pos) (tTest (tOp r ta tb)):=by
  intro pins s σ H Q I h
  refine wpAny_isTrue_Compare1 (thn (ha pins s σ H _ I h) fun v s1 ⟨x,H1,I1,r1,q1⟩=>thn (hb pins s1 σ H1 _ I1 q1) fun u s2 ⟨y,H2,I2,r2,q2⟩=>
    thn (ho pins s2 σ H2 x y v u _ I2 r1 r2 q2) fun c s3 ⟨z,H3,I3,r3,k,e,q3⟩=>?_) hm
  subst e
  cases r3
  exact wpAny_truthy_bool ⟨H3,I3,q3⟩
def tChain (r r':R2) (ta tb tc:TE):TE:=fun σ H Q=>ta σ H fun x H1=>tb σ H1 fun y H2=>r x y H2 fun z H3=>∃ k,z=.bl k∧
  (if k=true then tc σ H3 fun w' H4=>r' y w' H4 Q else Q (.bl false) H3)
theorem pe_chain {op op':CmpOp} {r r':R2} (ho:OpR X (compareOp op) r) (ho':OpR X (compareOp op') r') (ha:PE X a ta) (hb:PE X b tb) (hc:PE X c tc)
    (hm:lastMarks [op,op'] [b,c]=false:=by with_unfolding_all rfl):PE X (.Compare a [op,op'] [b,c] pos) (tChain r r' ta tb tc):=by
  intro pins s σ H Q I h
  refine Compare_chain (thn (ha pins s σ H _ I h) fun v s1 ⟨x,H1,I1,r1,q1⟩=>chain_link (thn (hb pins s1 σ H1 _ I1 q1) fun u s2 ⟨y,H2,I2,r2,q2⟩=>
    thn (ho pins s2 σ H2 x y v u _ I2 r1 r2 q2) fun d s3 ⟨z,H3,I3,r3,k,e,q3⟩=>?_)) hm
  subst e
  cases r3
  refine wpAny_truthy_bool ?_
  cases k with
  | false=>exact ite_ff ⟨.bl false,H3,I3,rfl,q3⟩
  | true=>exact ite_tt (chain_last (thn (hc pins s3 σ H3 _ I3 q3) fun w' s4 ⟨z',H4,I4,r4,q4⟩=>ho' pins s4 σ H4 y z' u w' Q I4 r2 r4 q4))
theorem pt_chain {op op':CmpOp} {r r':R2} (ho:OpR X (compareOp op) r) (ho':OpR X (compareOp op') r') (ha:PE X a ta) (hb:PE X b tb) (hc:PE X c tc)
    (hm:lastMarks [op,op'] [b,c]=false:=by with_unfolding_all rfl):PT X (.Compare a [op,op'] [b,c] pos) (tTest (tChain r r' ta tb tc)):=by
  intro pins s σ H Q I h
  refine isTrue_chain (thn (ha pins s σ H _ I h) fun v s1 ⟨x,H1,I1,r1,q1⟩=>test_link (thn (hb pins s1 σ H1 _ I1 q1) fun u s2 ⟨y,H2,I2,r2,q2⟩=>
    thn (ho pins s2 σ H2 x y v u _ I2 r1 r2 q2) fun d s3 ⟨z,H3,I3,r3,k,e,q3⟩=>?_)) hm
  subst e
  cases r3
  refine wpAny_truthy_bool ?_
  cases k with
  | false=>
    obtain ⟨k',e',q'⟩:=q3
    cases e'
    exact ite_ff ⟨H3,I3,q'⟩
  | true=>
    refine ite_tt (test_last (thn (hc pins s3 σ H3 _ I3 q3) fun w' s4 ⟨z',H4,I4,r4,q4⟩=>thn (ho' pins s4 σ H4 y z' u w' _ I4 r2 r4 q4) fun d' s5 ⟨z2,H5,I5,r5,k2,e2,q5⟩=>?_))
    subst e2
    cases r5
    exact wpAny_truthy_bool ⟨H5,I5,q5⟩
theorem line63:(sizeLine:Nat)<2 ^ 63:=by rw [sizeLine_eq];decide
theorem vals1 {x:V} {us:List Value} (r:Vals [x] us):∃ u,us=[u]∧RelV x u:=by
  cases r with
  | cons r1 r2=>cases r2;exact ⟨_,rfl,r1⟩
theorem vals2 {x y:V} {us:List Value} (r:Vals [x,y] us):∃ u w',us=[u,w']∧RelV x u∧RelV y w':=by
  cases r with
  | cons r1 r2=>
    cases r2 with
    | cons r3 r4=>cases r4;exact ⟨_,_,rfl,r1,r3⟩
theorem call_min2 (hc:X.calm=true):CallR X (.builtin "min") (fun xs H Q=>∃ i j,xs=[.int i,.int j]∧Q (.int (if j<i then j else i)) H):=by
  intro pins s σ H xs us Q I r h
  obtain ⟨i,j,rfl,q⟩:=h
  obtain ⟨u,w',rfl,⟨t,rfl⟩,⟨t',rfl⟩⟩:=vals2 r
  refine min_two_ints (I.ok.hd hc) fun h' tk k=>⟨_,H,I.kept k,?_,q⟩
  by_cases hj:j<i
  · rw [if_pos hj,if_pos hj];exact ⟨_,rfl⟩
  · rw [if_neg hj,if_neg hj];exact ⟨_,rfl⟩
theorem call_int1:CallR X (.type "int") (fun xs H Q=>(∃ i,xs=[.int i]∧Q (.int i) H)∨∃ k,xs=[.bl k]∧Q (.int (if k then 1 else 0)) H):=by
  intro pins s σ H xs us Q I r h
  rcases h with ⟨i,rfl,q⟩ | ⟨k,rfl,q⟩
  · obtain ⟨u,rfl,t,rfl⟩:=vals1 r
    exact call_int_int ⟨.int i,H,I,⟨_,rfl⟩,q⟩
  · obtain ⟨u,rfl,r1⟩:=vals1 r
    cases r1
    exact call_int_bool ⟨.int (if k then 1 else 0),H,I.tok _,⟨_,rfl⟩,q⟩
end
end L2
namespace L2
open PySem PySem.Spec PyProof.Rows
structure ObjM (h:Heap) (x dx C:Addr) (mA:Str→Option Value):Prop where
  obj:h.get? x=some (PySem.W.instObj C dx)
  ns:h.Ns1 dx mA
  ne:dx≠x
section
variable {prog:Program} {w:World} {A:Around} {E:Value→Shared→Prop} {s:Shared} {K:PySem.W.Frag} {x dx C f:Addr} {mA:Str→Option Value} {name:Str} {v:Value}
end
section
variable {P:Program} {w:World} {H H':Hp} {h h':Heap} {a C dx:Addr} {fs fs':List (Str×V)}
end
structure Cls (K:PySem.W.Frag) (C:Addr):Prop where
  pg:PySem.W.plainGet K C Str.empty=true
  hd:PySem.W.hasDictIn K C=true
  po:PySem.W.plainOver K C=true
  sa:PySem.W.findIn K (.ref C) "__setattr__"=some (some (.builtin "object.__setattr__"))
structure Con (K:PySem.W.Frag) (C:Addr) (f:Str) (v:V) (u:Value):Prop where
  at_:PySem.W.findIn K (.ref C) f=some (some u)
  rel:RelV v u
  get:PySem.W.specialIn K u "__get__"=some none
  cp:PySem.W.copiedNames.contains f=false
structure Meth (K:PySem.W.Frag) (C:Addr) (m:Str) (f:Addr):Prop where
  at_:PySem.W.findIn K (.ref C) m=some (some (.ref f))
  fn:PySem.W.isFn K (.ref f)=true
  kp:PySem.W.keepIn K (.ref f)=true
section
variable {X:Cx} {pins:List (Addr×Obj)} {σ:St} {H:Hp} {s:Shared} {a C dx:Addr} {fs:List (Str×V)} {f:Str} {v:V} {A:Around} {E:Value→Shared→Prop}
end
section
variable {X:Cx} {o e value:Expr} {f:Str} {pos pos' tpos:Pos} {ta tv:TE}
end
section
variable {X:Cx} {pins:List (Addr×Obj)} {σ:St} {H:Hp} {s:Shared} {A:Around} {E:Value→Shared→Prop} {Q:Value→Shared→Prop} {c:Value} {b:Bool}
inductive TyOf (K:PySem.W.Frag) (H:Hp):V→Value→Prop where
  | non:TyOf K H .non (.type "NoneType")
  | bl (x:Bool):TyOf K H (.bl x) (.type "bool")
  | int (i:Int):TyOf K H (.int i) (.type "int")
  | str (x:Str):TyOf K H (.str x) (.type "str")
  | flt (x:UInt64):TyOf K H (.flt x) (.type "float")
  | lst {a:Addr} {xs:List V} (e:H a=some (.lst xs)):TyOf K H (.ref a) (.type "list")
  | frz {a:Addr} {o:Obj} {xs:List V} (e:H a=some (.frz o (.lst xs))):TyOf K H (.ref a) (.type "list")
  | tup {a:Addr} {xs:List V} (e:H a=some (.tup xs)):TyOf K H (.ref a) (.type "tuple")
  | dK {a:Addr} {kvs:List (Key×V)} (e:H a=some (.dK kvs)):TyOf K H (.ref a) (.type "dict")
  | dT {a:Addr} {kvs:List (List Key×V)} (e:H a=some (.dT kvs)):TyOf K H (.ref a) (.type "dict")
  | ins {a C dx:Addr} {fs:List (Str×V)} (e:H a=some (.ins C dx fs)) (cl:Cls K C) (ha:PySem.W.findIn K (.ref C) "__class__"=some (some (.builtin "object.__class__")))
      (hn:PySem.W.specialIn K (.builtin "object.__class__") "__get__"=some (some (.builtin "getset_descriptor.__get__"))) (htk:PySem.W.takesIn K (.builtin "object.__class__")=some true)
      (hm:PySem.W.mroIn K C (.type "object")=some true):TyOf K H (.ref a) (.ref C)
end
end L2
namespace L2
open PySem PySem.Spec PyProof.Rows
structure Room (k:Nat) (A:Around):Prop where
  hd:A.handled=none
  dp:A.depth+3*k+5<recursionLimit
  un:A.units+16*k+200<cLine
theorem Room.mono {j k:Nat} {A:Around} (r:Room k A) (h:j≤k):Room j A:=⟨r.hd,by have:=r.dp;omega,by have:=r.un;omega⟩
theorem Room.deeper {k:Nat} {A:Around} (r:Room (k+1) A) (env:Env):Room k (A.deeper env):=
  ⟨r.hd,by have:=r.dp;show A.depth+1+3*k+5<_;omega,by have:=r.un;show A.units+3+16*k+200<_;omega⟩
theorem Room.depth {k:Nat} {A:Around} (r:Room k A):A.depth<recursionLimit:=by have:=r.dp;omega
theorem Room.units {k:Nat} {A:Around} (r:Room k A):A.units+64<cLine:=by have:=r.un;omega
def tNil:TA:=fun _ H Q=>Q [] H
def tCons (ta:TE) (tr:TA):TA:=fun σ H Q=>ta σ H fun x H1=>tr σ H1 fun xs H2=>Q (x::xs) H2
section
variable {X:Cx} {e:Expr} {es:List Expr} {te:TE} {t:TA} {pos:Pos}
theorem pa_nil:PA X [] tNil:=fun _ _ _ _ H Q I h=>Calls.spliced_nil ⟨[],H,I,.nil,h⟩
theorem pa_cons (ha:PE X e te) (hr:PA X es t) (hs:starEach (e::es) X.env=(false,eval e X.env)::starEach es X.env:=by rfl):PA X (e::es) (tCons te t):=by
  intro pos pins s σ H Q I h
  rw [hs]
  show wpAny _ _ (spliced ((false,eval e X.env)::backTo pos (starEach es X.env))) _ _ s
  refine Calls.spliced_cons (thn (ha pins s σ H _ I h) fun u s1 ⟨x,H1,I1,r1,q1⟩=>?_)
  exact thn (hr pos pins s1 σ H1 _ I1 q1) fun us s2 ⟨xs,H2,I2,r2,q2⟩=>⟨x::xs,H2,I2,.cons r1 r2,q2⟩
def tTup (t:TA):TE:=fun σ H Q=>t σ H fun xs H1=>xs.length≤sizeLine∧∀ p,H1 p=none→Q (.ref p) (upd H1 p (.tup xs))
def tLst (t:TA):TE:=fun σ H Q=>t σ H fun xs H1=>xs.length≤sizeLine∧∀ p,H1 p=none→Q (.ref p) (upd H1 p (.lst xs))
theorem pe_tup {x1} (h:PA X es t):PE X (.Tuple es x1 pos) (tTup t):=by
  intro pins s σ H Q I hq
  refine wpAny_Tuple_spliced (thn (h pos pins s σ H _ I hq) fun us s1 ⟨xs,H1,I1,r,z,q⟩=>⟨by rw [← r.length];exact z,?_⟩)
  have hf:H1 s1.heap.objs.size=none:=I1.hok.fresh (Nat.le_refl _)
  refine ⟨.ref s1.heap.objs.size,upd H1 s1.heap.objs.size (.tup xs),I1.laid (t':=s1.toks) (fun b u e=>Heap.get?_push_of_some _ e) (Nat.le_refl _) ?_,rfl,q _ hf⟩
  exact ⟨z,us,r,⟨_,Heap.get?_push_size _ rfl,rfl,_,rfl⟩⟩
theorem pe_lst (h:PA X es t):PE X (.List es pos) (tLst t):=by
  intro pins s σ H Q I hq
  refine wpAny_List_spliced (thn (h pos pins s σ H _ I hq) fun us s1 ⟨xs,H1,I1,r,z,q⟩=>⟨by rw [← r.length];exact z,?_⟩)
  have hf:H1 s1.heap.objs.size=none:=I1.hok.fresh (Nat.le_refl _)
  refine ⟨.ref s1.heap.objs.size,upd H1 s1.heap.objs.size (.lst xs),I1.laid (t':=s1.toks) (fun b u e=>Heap.get?_push_of_some _ e) (Nat.le_refl _) ?_,rfl,q _ hf⟩
  exact ⟨z,us,0,r,Heap.get?_push_size _ rfl⟩
end
abbrev Sp:=List V→Hp→VK→XK→Prop
abbrev CXT:=List Env→Hp→Shared→XK→Value→Shared→Prop
structure Env0 (P:Program) (w:World) (K:PySem.W.Frag) (mg:Str→Option Value) (base:Heap) (A:Around) (outer:List Env) (s:Shared) (H:Hp):Prop where
  frames:A.frames=some outer
  mod:Mod K mg base
  bs:∀ b o,base.get? b=some o→s.heap.get? b=some o∧H b=none
  bsz:base.objs.size≤s.heap.objs.size
  funs:s.heap.FunFrames base outer
  frf:∀ b∈frs outer,H b=none
  hok:HOk P w H s.heap
  bare:AllBare s.gens
def CE (outer:List Env) (P:Program) (w:World) (H:Hp) (s:Shared) (Q:VK) (u:Value) (s':Shared):Prop:=
  ∃ v H',s'.os=s.os∧AllBare s'.gens∧Un (frs outer) [] H H' s.heap s'.heap∧HOk P w H' s'.heap∧RelV v u∧Q v H'
def CR (CX:CXT) (outer:List Env) (P:Program) (w:World) (H:Hp) (s:Shared) (Q:VK) (E:XK) (r:Result) (s':Shared):Prop:=
  match r with
  | .ok (.ret u)=>CE outer P w H s Q u s'
  | .ok _=>False
  | .error e=>CX outer H s E e s'
structure FnOk (P:Program) (w:World) (K:PySem.W.Frag) (mg:Str→Option Value) (base:Heap) (CX:CXT) (k:Nat) (f:Addr) (fd:FuncData) (ps:List Str) (sp:Sp):Prop where
  len:∀ vs H Q E,sp vs H Q E→vs.length=ps.length
  run:∀ (A:Around) (outer:List Env) (s:Shared) (H:Hp) (args:Args) (us:List Value) (vs:List V) (Q:VK) (E:XK),Room k A→Env0 P w K mg base A outer s H→BindsTo s fd args (ps.zip us)→Vals vs us→sp vs H Q E→
    codeAny (model P w) A (.call (.ref f) args) (CR CX outer P w H s Q E) s
theorem FnOk.mono {P:Program} {w:World} {K:PySem.W.Frag} {mg:Str→Option Value} {base:Heap} {CX:CXT} {j k:Nat} {f:Addr} {fd:FuncData} {ps:List Str} {sp:Sp} (F:FnOk P w K mg base CX j f fd ps sp) (h:j≤k) :
    FnOk P w K mg base CX k f fd ps sp:=⟨F.len,fun A outer s H args us vs Q E hr=>F.run A outer s H args us vs Q E (hr.mono h)⟩
section
variable {X:Cx} {pins:List (Addr×Obj)} {σ:St} {H:Hp} {s s':Shared}
theorem Inv.env0 (I:Inv X pins σ H s):Env0 X.prog X.w X.K X.mg X.base X.A X.stack s H:=
  ⟨I.ok.frames,I.ok.mod,I.bs,Nat.le_trans I.ok.bsz I.sz,I.stack,I.stkFree,I.hok,I.bare⟩
theorem Inv.after {Q:VK} {u:Value} (I:Inv X pins σ H s) (h:CE X.stack X.prog X.w H s Q u s'):EP X pins σ Q u s':=by
  obtain ⟨v,H',os,bare,un,hok,r,q⟩:=h
  obtain ⟨hh,g,d,t,os'⟩:=s'
  obtain rfl:os'=s.os:=os
  exact ⟨v,H',I.call (h':=hh) (g':=g) (d':=d) (t':=t) (ch:=[]) un hok bare (fun b z=>absurd z (by simp)),r,q⟩
end
def tCall (sp:Sp) (dvs:List V) (E:XK) (t:TA):TE:=fun σ H Q=>t σ H fun vs H1=>sp (vs++dvs) H1 Q E
def Binds (K:PySem.W.Frag) (fd:FuncData) (ps:List Str) (ds:List Value):Prop:=
  ∀ (s:Shared) (us:List Value),K.In s.heap→(us++ds).length=ps.length→BindsTo s fd ⟨us,[]⟩ (ps.zip (us++ds))
theorem Binds.all {K:PySem.W.Frag} {fd:FuncData} {ps:List Str} (h:∀ us:List Value,us.length=ps.length→bindArgs fd ⟨us,[]⟩=pure (ps.zip us)):Binds K fd ps []:=fun s us _ hl=>by
  rw [List.append_nil] at hl ⊢
  exact .of_eq (h us hl)
def Passes (CX:CXT) (X:Cx) (E:XK):Prop:=∀ (pins:List (Addr×Obj)) (σ:St) (H:Hp) (s:Shared) (e:Value) (s':Shared),Inv X pins σ H s→CX X.stack H s E e s'→X.xe e s'
section
variable {X:Cx} {CX:CXT} {k:Nat} {f C:Addr} {fd:FuncData} {ps:List Str} {sp:Sp} {dvs:List V} {ds:List Value} {E:XK} {x m:Str} {p pos apos:Pos} {e o:Expr} {es:List Expr} {ta:TE} {t:TA}
theorem run_fn {pins:List (Addr×Obj)} {σ:St} {H:Hp} {s:Shared} {Q:VK} {us:List Value} {vs:List V} (F:FnOk X.prog X.w X.K X.mg X.base CX k f fd ps sp) (hr:Room k X.A) (hb:Binds X.K fd ps ds) (hd:Vals dvs ds) (hx:Passes CX X E)
    (I:Inv X pins σ H s) (r:Vals vs us) (h:sp (vs++dvs) H Q E):wpAny (model X.prog X.w) X.A (call (.ref f) us) (EP X pins σ Q) X.xe s:=by
  have r2:Vals (vs++dvs) (us++ds):=r.append hd
  have hl:(us++ds).length=ps.length:=by rw [← r2.length];exact F.len _ _ _ _ h
  refine wpAny_call (codeAny_mono (F.run X.A X.stack s H ⟨us,[]⟩ (us++ds) (vs++dvs) Q E hr I.env0 (hb s us I.kIn hl) r2 h) fun r s' hq=>?_)
  cases r with
  | error e=>exact hx pins σ H s e s' I hq
  | ok fl=>
    cases fl with
    | ret u=>exact I.after hq
    | next=>exact False.elim hq
    | brk=>exact False.elim hq
    | cont=>exact False.elim hq
theorem pe_call (F:FnOk X.prog X.w X.K X.mg X.base CX k f fd ps sp) (hr:Room k X.A) (hg:Gl X x) (hm:X.mg x=some (.ref f)) (hk:PySem.W.keepIn X.K (.ref f)=true) (hb:Binds X.K fd ps ds) (hd:Vals dvs ds) (hx:Passes CX X E)
    (ha:PA X (e::es) t) (hdb:(x==("__debug__":Str))=false:=by decide) (he:starEach (e::es) X.env=(false,eval e X.env)::starEach es X.env:=by rfl) (hpl:(backTo pos (starEach es X.env)).any (·.1)=false:=by rfl) :
    PE X (.Call (.Name x p) (e::es) [] pos) (tCall sp dvs E t):=by
  intro pins s σ H Q I h
  refine wpAny_Call_Name_kw (ld_glob I hg hm ?_ hdb)
  refine PySem.W.callWith_K (h₀:=X.base) I.ok.mod.kin hk (thn (ha pos pins s σ H _ I h) fun us s1 ⟨vs,H1,I1,r,q⟩=>⟨I1.kIn,?_⟩) he hpl
  exact run_fn F hr hb hd hx I1 r q
structure Mk (K:PySem.W.Frag) (C f:Addr):Prop where
  makes:PySem.W.makesIn K C=true
  init:PySem.W.findIn K (.ref C) "__init__"=some (some (.ref f))
  fn:PySem.W.isFn K (.ref f)=true
  kp:PySem.W.keepIn K (.ref C)=true
end
section
variable {X:Cx} {CX:CXT} {k:Nat} {f C:Addr} {fd:FuncData} {ps ks:List Str} {sp:Sp} {E:XK} {x m:Str} {p pos apos kpos:Pos} {e o:Expr} {es:List Expr} {kws:List Keyword} {te ta:TE} {t tk:TA} {nm:Option Str}
structure KBinds (K:PySem.W.Frag) (fd:FuncData) (ps ks:List Str) (g:List Value→List Value→List Value) (gV:List V→List V→List V):Prop where
  to:∀ (s:Shared) (us ws:List Value),K.In s.heap→(g us ws).length=ps.length→BindsTo s fd ⟨us,ks.zip ws⟩ (ps.zip (g us ws))
  rel:∀ {vs:List V} {us:List Value} {zs:List V} {ws:List Value},Vals vs us→Vals zs ws→Vals (gV vs zs) (g us ws)
variable {g:List Value→List Value→List Value} {gV:List V→List V→List V}
end
structure FnScope (N P:List Str) (sc:Scope):Prop where
  kind:sc.kind=.function
  co:sc.isCoroutine=false
  gen:sc.isGenerator=false
  nd:N.Nodup
  pre:N.take P.length=P
  par:∀ x∈P,sc.names.lookup x=some .local∨sc.names.lookup x=some .cell
  nofree:∀ y∈sc.names,y.2≠.free
theorem bindL_out {kindOf:Str→Option NameKind} {x:Str}:∀ {binds:List (Str×Value)} {m:Str→Option Value},(∀ v,(x,v)∉binds)→bindL kindOf binds m x=m x
  | [],_,_=>rfl
  | (n,v)::r,m,h=>by
    unfold bindL
    rw [bindL_out fun w hw=>h w (List.mem_cons_of_mem _ hw)]
    split
    · have:x≠n:=by rintro rfl;exact h v List.mem_cons_self
      simp [this]
    · rfl
theorem bindC_out {kindOf:Str→Option NameKind} {x:Str}:∀ {binds:List (Str×Value)} {m:Str→Option Value},(∀ v,(x,v)∉binds)→bindC kindOf binds m x=m x
  | [],_,_=>rfl
  | (n,v)::r,m,h=>by
    unfold bindC
    rw [bindC_out fun w hw=>h w (List.mem_cons_of_mem _ hw)]
    split
    · rfl
    · have:x≠n:=by rintro rfl;exact h v List.mem_cons_self
      simp [this]
theorem bindL_get {kindOf:Str→Option NameKind} {x:Str} {v:Value}:∀ {P:List Str} {vs:List Value} {i:Nat} {m:Str→Option Value},P.Nodup→P[i]?=some x→vs[i]?=some v→kindOf x=some .local→
    bindL kindOf (P.zip vs) m x=some v
  | [],_,_,_,_,h,_,_=>by simp at h
  | _::_,[],_,_,_,_,h,_=>by simp at h
  | p::P,w::vs,0,m,nd,h1,h2,hk=>by
    simp at h1 h2;subst h1;subst h2
    show bindL kindOf ((p,w)::P.zip vs) m p=_
    unfold bindL
    rw [bindL_out fun v hv=>(List.nodup_cons.mp nd).1 (List.of_mem_zip hv).1,if_pos hk]
    simp
  | p::P,w::vs,i+1,m,nd,h1,h2,hk=>by
    show bindL kindOf ((p,w)::P.zip vs) m x=_
    unfold bindL
    exact bindL_get (i:=i) (List.nodup_cons.mp nd).2 (by simpa using h1) (by simpa using h2) hk
theorem bindC_get {kindOf:Str→Option NameKind} {x:Str} {v:Value}:∀ {P:List Str} {vs:List Value} {i:Nat} {m:Str→Option Value},P.Nodup→P[i]?=some x→vs[i]?=some v→kindOf x≠some .local→
    bindC kindOf (P.zip vs) m x=some v
  | [],_,_,_,_,h,_,_=>by simp at h
  | _::_,[],_,_,_,_,h,_=>by simp at h
  | p::P,w::vs,0,m,nd,h1,h2,hk=>by
    simp at h1 h2;subst h1;subst h2
    show bindC kindOf ((p,w)::P.zip vs) m p=_
    unfold bindC
    rw [bindC_out fun v hv=>(List.nodup_cons.mp nd).1 (List.of_mem_zip hv).1,if_neg hk]
    simp
  | p::P,w::vs,i+1,m,nd,h1,h2,hk=>by
    show bindC kindOf ((p,w)::P.zip vs) m x=_
    unfold bindC
    exact bindC_get (i:=i) (List.nodup_cons.mp nd).2 (by simpa using h1) (by simpa using h2) hk
def start (N:List Str) (vs:List V):St:=vs.map some++List.replicate (N.length-vs.length) none
def cxOf (CX:CXT) (P:Program) (w:World) (K:PySem.W.Frag) (mg:Str→Option Value) (base:Heap) (N:List Str) (qual:Str) (scope:Scope) (f:Addr) (cd:Value) (A:Around) (outer:List Env) (s:Shared) (H:Hp) (E:XK):Cx where
  prog:=P
  w:=w
  K:=K
  mg:=mg
  base:=base
  A:=A.deeper (envOfC qual scope s.heap.objs.size f cd)
  N:=N
  s₀:=s
  H₀:=H
  env:=envOfC qual scope s.heap.objs.size f cd
  outer:=outer
  stack:=envOfC qual scope s.heap.objs.size f cd::outer
  ex:=[]
  calm:=true
  fn:=fun _=>true
  pn:=[]
  xe:=fun e s'=>wpAny (model P w) (A.deeper (envOfC qual scope s.heap.objs.size f cd)) (leaving (envOfC qual scope s.heap.objs.size f cd) e) (fun _ s''=>CX outer H s E e s'') (fun e' s''=>CX outer H s E e' s'') s'
theorem cell_has {sc:Scope} {n:Nat} {x:Str} (h:sc.names.lookup x=some .cell):∃ c,(cellsFrom n sc.names []).lookup x=some c:=by
  have q:=PySem.W.cellsFrom_some sc.names n [] (.inl h)
  exact Option.isSome_iff_exists.mp q
theorem inv_start {CX:CXT} {P:Program} {w:World} {K:PySem.W.Frag} {mg:Str→Option Value} {base:Heap} {N ps:List Str} {qual:Str} {scope:Scope} {f:Addr} {cd:Value} {A:Around} {outer:List Env} {s s1:Shared} {H:Hp} {E:XK} {us:List Value} {vs:List V}
    (S:FnScope N ps scope) (hd:A.handled=none) (e0:Env0 P w K mg base A outer s H) (hl:vs.length=ps.length) (r:Vals vs us)
    (x:InCallC s s.heap.objs.size (bindL (envOfC qual scope s.heap.objs.size f cd).kindOf (ps.zip us) fun _=>none) (cellsFrom (s.heap.objs.size+1) scope.names []) (bindC (envOfC qual scope s.heap.objs.size f cd).kindOf (ps.zip us) fun _=>none) s1) :
    Inv (cxOf CX P w K mg base N qual scope f cd A outer s H E) [] (start N vs) H s1:=by
  have hpl:ps.length≤N.length:=by have:=congrArg List.length S.pre;rw [List.length_take] at this;omega
  obtain ⟨h1,tk,rfl,hk⟩:=x.done
  have noA:∀ b:Addr,b∉(cxOf CX P w K mg base N qual scope f cd A outer s H E).ex:=fun b z=>absurd (show b∈([]:List Addr) from z) (by simp)
  refine ⟨⟨e0.mod,S.kind,rfl,rfl,Nat.le_refl _,fun y z c h1 h2=>?_,fun y hy=>?_,fun y c _ h=>?_,fun _=>hd,Around.frames_deeper e0.frames,.inr ⟨rfl,rfl⟩,fun b z=>absurd z (noA b),e0.bs,e0.bsz,fun b _ _=>noA b,fun b z=>absurd z (noA b),e0.funs,e0.frf⟩,
    rfl,e0.bare,Un.kept hk,⟨_,x.toInCall.ns,fun i y v h1 h2 h3=>?_⟩,fun y c h=>⟨_,x.cell y c h⟩,e0.hok.fresh (Nat.le_refl _),fun y c h=>?_,fun p hp=>absurd (show p∈([]:List (Addr×Obj)) from hp) (by simp),e0.hok.kept hk,?_⟩
  · exact name_of_addr x.apart (PySem.mem_of_lookup h1) (PySem.mem_of_lookup h2)
  · have hy:scope.names.lookup y=some .cell∨scope.names.lookup y=some .free:=hy
    rcases hy with hy | hy
    · exact cell_has hy
    · exact absurd rfl (S.nofree _ (PySem.mem_of_lookup hy))
  · exact Nat.le_of_lt (x.above y c (PySem.mem_of_lookup h))
  · have hi:i<vs.length:=by
      unfold start at h2
      by_cases hi:i<vs.length
      · exact hi
      · rw [List.getElem?_append_right (by simpa using hi)] at h2
        rw [List.getElem?_replicate] at h2
        split at h2<;>cases h2
    have ha:vs[i]?=some v:=by
      unfold start at h2
      rw [List.getElem?_append_left (by simpa using hi),List.getElem?_map] at h2
      cases e:vs[i]? with
      | none=>rw [e] at h2;cases h2
      | some a=>rw [e] at h2;cases h2;rfl
    obtain ⟨u,hu,rv⟩:=r.get ha
    have hp:ps[i]?=some y:=by
      rw [← S.pre,List.getElem?_take_of_lt (by omega)];exact h1
    have ndP:ps.Nodup:=by rw [← S.pre];exact S.nd.sublist (List.take_sublist _ _)
    refine ⟨u,rv,?_⟩
    rcases S.par y (List.mem_of_getElem? hp) with k | k
    · exact .inl ⟨k,bindL_get ndP hp hu k⟩
    · obtain ⟨c,e⟩:=cell_has (n:=s.heap.objs.size+1) k
      refine .inr ⟨.inl k,c,e,?_⟩
      have q:=x.cell y c e
      rw [bindC_get ndP hp hu (by show scope.names.lookup y≠_;rw [k];decide)] at q
      exact q
  · exact e0.hok.fresh (Nat.le_of_lt (x.above y c (PySem.mem_of_lookup h)))
  · unfold start
    show _=N.length
    rw [List.length_append,List.length_map,List.length_replicate]
    omega
theorem fn_of {CX:CXT} {P:Program} {w:World} {K:PySem.W.Frag} {mg:Str→Option Value} {base:Heap} {k:Nat} {f:Addr} {name qual:Str} {params:Arguments} {body:List Stmt} {scope:Scope} {dV kV doc pm cdv ct oc:Value} {an od:Option Addr}
    {osl:Array (Option Value)} {N ps:List Str} {sp:Sp} (lk:K.lookup f=some ⟨oc,od,.func (PySem.W.fnOf name qual params body scope dV kV doc pm an cdv ct),osl⟩) (hcd:PySem.W.codeIn K cdv qual=true) (S:FnScope N ps scope)
    (len:∀ vs H Q E,sp vs H Q E→vs.length=ps.length)
    (hbody:∀ (A:Around) (outer:List Env) (s:Shared) (H:Hp) (vs:List V) (Q:VK) (E:XK),Room k (A.deeper (envOfC qual scope s.heap.objs.size f cdv))→sp vs H Q E→
      ∃ t,PSs (cxOf CX P w K mg base N qual scope f cdv A outer s H E) body t∧t { nx:=fun _ H'=>Q .non H',rt:=Q } (start N vs) H) :
    FnOk P w K mg base CX (k+1) f (PySem.W.fnOf name qual params body scope dV kV doc pm an cdv ct) ps sp:=by
  refine ⟨len,fun A outer s H args us vs Q E hr e0 hb r hsp=>?_⟩
  have hl:=len _ _ _ _ hsp
  have KX:K.In s.heap:=e0.mod.kin.keeps fun b o e=>(e0.bs b o e).1
  have lim:s.heap.NoLimit:=e0.mod.nolimit.keeps fun b o e=>(e0.bs b o e).1
  have hkind:∀ y∈ps.zip us,scope.names.lookup y.1=some .local∨(scope.names.lookup y.1=some .cell∧((cellsFrom (s.heap.objs.size+1) scope.names []).lookup y.1).isSome=true):=fun ⟨n,v⟩ hy=>by
    rcases S.par n (List.of_mem_zip hy).1 with q | q
    · exact .inl q
    · exact .inr ⟨q,PySem.W.cellsFrom_some _ _ _ (.inl q)⟩
  refine codeAny_call_function hr.depth (KX _ _ lk) rfl S.co S.gen rfl (PySem.W.codeRec_of KX hcd) (hb _ _ _ _ ?_)
  refine wpAny_newFunctionEnv_cells S.kind hkind fun env he s1 x=>?_
  subst he
  refine ⟨lim.keeps x.toInCall.keep,codeAny_func ?_⟩
  obtain ⟨t,ht,hq⟩:=hbody A outer s H vs Q E (hr.deeper _) hsp
  have I:Inv (cxOf CX P w K mg base N qual scope f cdv A outer s H E) [] (start N vs) H s1:=inv_start S hr.hd e0 hl r x
  refine wpAny_mono (ht [] s1 (start N vs) H _ I hq) (fun fl s' hs=>?_) fun e s' hs=>hs
  have fin:∀ {σ':St} {H':Hp} {v:V} {u:Value},Inv (cxOf CX P w K mg base N qual scope f cdv A outer s H E) [] σ' H' s'→RelV v u→Q v H'→CE outer P w H s Q u s':=
    fun {σ' H' v u} J rv q=>⟨v,H',J.os,J.bare,J.base,J.hok,rv,q⟩
  cases fl with
  | ret u=>
    obtain ⟨v,σ',H',J,rv,q⟩:=hs
    exact fin J rv q
  | next=>
    obtain ⟨σ',H',J,q⟩:=hs
    exact fin (v:=V.non) (u:=Value.none) J rfl q
  | brk=>
    obtain ⟨_,_,_,q⟩:=hs
    exact False.elim q
  | cont=>
    obtain ⟨_,_,_,q⟩:=hs
    exact False.elim q
end L2
namespace L2
open PySem PySem.Spec PyProof.Rows
section
variable {X:Cx} {x:Str} {p pos:Pos} {e:Expr} {es:List Expr} {t:TA} {id T:String} {r:List V→Hp→VK→Prop}
def tCB (r:List V→Hp→VK→Prop) (t:TA):TE:=fun σ H Q=>t σ H fun vs H1=>r vs H1 Q
theorem pe_callB (hc:CallR X (.builtin id) r) (hg:Gl X x) (hm:X.mg x=none) (hv:bootBuiltins x=some (.builtin id)) (ha:PA X (e::es) t) (hn:x≠"__name__":=by decide) (hdb:(x==("__debug__":Str))=false:=by decide)
    (he:starEach (e::es) X.env=(false,eval e X.env)::starEach es X.env:=by rfl) (hpl:(backTo pos (starEach es X.env)).any (·.1)=false:=by rfl):PE X (.Call (.Name x p) (e::es) [] pos) (tCB r t):=by
  intro pins s σ H Q I h
  refine wpAny_Call_Name_kw (ld_blt I hg hm hv ?_ hn hdb)
  exact PyProof.Rows.callWith_builtin1 (thn (ha pos pins s σ H _ I h) fun us s1 ⟨vs,H1,I1,r1,q1⟩=>hc pins s1 σ H1 vs us Q I1 r1 q1) he hpl
theorem pe_callTy (hc:CallR X (.type T) r) (hg:Gl X x) (hm:X.mg x=none) (hv:bootBuiltins x=some (.type T)) (ha:PA X (e::es) t) (hn:x≠"__name__":=by decide) (hdb:(x==("__debug__":Str))=false:=by decide)
    (he:starEach (e::es) X.env=(false,eval e X.env)::starEach es X.env:=by rfl) (hpl:(backTo pos (starEach es X.env)).any (·.1)=false:=by rfl):PE X (.Call (.Name x p) (e::es) [] pos) (tCB r t):=by
  intro pins s σ H Q I h
  refine wpAny_Call_Name_kw (ld_blt I hg hm hv ?_ hn hdb)
  exact PyProof.Rows.callWith_type1 (thn (ha pos pins s σ H _ I h) fun us s1 ⟨vs,H1,I1,r1,q1⟩=>hc pins s1 σ H1 vs us Q I1 r1 q1) he hpl
end
end L2
namespace HT
open PySem PyProof.Rows
theorem rcLt_int (A:Around) (s:Shared) (a:Int) (t:Tok) (c:Int) (u:Tok) (prog:Program) (w:World) (E:Value→Shared→Prop) (Q:Value→Shared→Prop) (h:Q (.bool (decide (a<c))) s) :
    wpAny (model prog w) A (richCompare .Lt (.int a t) (.int c u)) Q E s:=
  (PyProof.Rows.lt_int h:wpAny (model prog w) A (compareOp .Lt (.int a t) (.int c u)) Q E s)
section
open PySem.SeqAt
open PySem.AutoSeq1 (wpAny_loadPart')
open PySem.MeetsSeq PySem.MeetsSeq2 PySem.MeetsSeq3
end
section
variable {prog:Program} {w:World} {A:Around} {E:Value→Shared→Prop} {s:Shared}
def sIx (n d:Nat):Option Int→Nat
  | none=>d
  | some v=>if v<0 then (v+(n:Int)).toNat else min v.toNat n
theorem sIx_none (n d:Nat):sIx n d none=d:=rfl
theorem sIx_nat (n d k:Nat):sIx n d (some (k:Int))=min k n:=by
  show (if (k:Int)<0 then ((k:Int)+(n:Int)).toNat else min (k:Int).toNat n)=min k n
  rw [if_neg (by omega),Int.toNat_natCast]
end
end HT
namespace L2
open PySem PySem.Spec PyProof.Rows
abbrev TO:=St→Hp→(Option Int→Hp→Prop)→Prop
def PO (X:Cx) (e:Option Expr) (t:TO):Prop:=
  ∀ (pins:List (Addr×Obj)) (s:Shared) (σ:St) (H:Hp) (Q:Option Int→Hp→Prop),Inv X pins σ H s→t σ H Q→
    wpAny (model X.prog X.w) X.A (evalPart e X.env) (fun u s'=>∃ o H',Inv X pins σ H' s'∧IsPart u o∧Q o H') X.xe s
def tNoPart:TO:=fun _ H Q=>Q none H
def tPart (t:TE):TO:=fun σ H Q=>t σ H fun x H1=>∃ i,x=.int i∧Q (some i) H1
section
variable {X:Cx} {e:Expr} {te:TE} {lo hi:Option Expr} {tl th:TO} {pos p2:Pos}
theorem po_none:PO X none tNoPart:=by
  intro pins s σ H Q I h
  rw [evalPart_none]
  exact wpAny_pure ⟨none,H,I,.none,h⟩
theorem po_some (h:PE X e te):PO X (some e) (tPart te):=by
  intro pins s σ H Q I hw
  rw [evalPart_some]
  refine thn (h pins s σ H _ I hw) fun u s1 ⟨x,H1,I1,r1,q1⟩=>?_
  obtain ⟨i,rfl,q⟩:=q1
  obtain ⟨t,rfl⟩:=r1
  exact ⟨some i,H1,I1,.int i t,q⟩
def SlR (X:Cx) (r:V→Option Int→Option Int→Hp→VK→Prop):Prop:=
  ∀ (pins:List (Addr×Obj)) (s:Shared) (σ:St) (H:Hp) (x:V) (v vl vu:Value) (lo hi:Option Int) (sl:Addr) (Q:VK),Inv X pins σ H s→RelV x v→s.heap.IsSliceOf sl vl vu .none→IsPart vl lo→IsPart vu hi→r x lo hi H Q→
    ∃ T id,typeLookup (.type T) "__getitem__"=pure (some (.builtin id))∧s.TypeIs v T∧wpAny (model X.prog X.w) X.A (getItem v (.ref sl)) (EP X pins σ Q) X.xe s
def tSl (r:V→Option Int→Option Int→Hp→VK→Prop) (te:TE) (tl th:TO):TE:=fun σ H Q=>te σ H fun x H1=>tl σ H1 fun l H2=>th σ H2 fun u H3=>r x l u H3 Q
theorem pe_slice {r:V→Option Int→Option Int→Hp→VK→Prop} (hr:SlR X r) (he:PE X e te) (hl:PO X lo tl) (hu:PO X hi th):PE X (.Subscript e (.Slice lo hi none p2) pos) (tSl r te tl th):=by
  intro pins s σ H Q I h
  refine Subscript_ (thn (he pins s σ H _ I h) fun v s1 ⟨x,H1,I1,r1,q1⟩=>?_)
  refine wpAny_Slice (thn (hl pins s1 σ H1 _ I1 q1) fun vl s2 ⟨l,H2,I2,pl,q2⟩=>thn (hu pins s2 σ H2 _ I2 q2) fun vu s3 ⟨u,H3,I3,pu,q3⟩=>?_)
  rw [evalPart_none]
  refine wpAny_pure ?_
  have I4:Inv X pins σ H3 { s3 with heap:=s3.heap.push { cls:=.type "slice",data:=.fields #[vl,vu,.none] } }:=I3.kept (t':=s3.toks) fun b ob q=>Heap.get?_push_of_some _ q
  obtain ⟨T,id,hT,ht,hg⟩:=hr pins { s3 with heap:=s3.heap.push { cls:=.type "slice",data:=.fields #[vl,vu,.none] } } σ H3 x v vl vu l u s3.heap.objs.size Q I4 r1 (Heap.IsSliceOf.new ..) pl pu q3
  show wpAny (model X.prog X.w) X.A (subscriptTail e (.Slice lo hi none p2) v (.ref s3.heap.objs.size)) (EP X pins σ Q) X.xe { s3 with heap:=s3.heap.push { cls:=.type "slice",data:=.fields #[vl,vu,.none] } }
  exact tail_any (ops:=[.ref s3.heap.objs.size,v]) ht hT hg (by with_unfolding_all rfl)
def cutV (xs:List V) (lo hi:Option Int):List V:=(xs.drop (HT.sIx xs.length 0 lo)).take (HT.sIx xs.length xs.length hi-HT.sIx xs.length 0 lo)
theorem cutV_length (xs:List V) (lo hi:Option Int):(cutV xs lo hi).length≤xs.length:=by
  unfold cutV
  rw [List.length_take,List.length_drop]
  omega
end
end L2
namespace L2
open PySem PySem.Spec PyProof.Rows
def ixN (n:Nat) (i:Int):Option Nat:=if 0≤i then (if i<n then some i.toNat else none) else if -(n:Int)≤i then some (i+n).toNat else none
def atI {α:Type} (xs:List α) (i:Int):Option α:=(ixN xs.length i).bind fun j=>xs[j]?
theorem ixN_seq {n:Nat} {i:Int} {j:Nat} (h:ixN n i=some j):seqIndex? i n=some j∧j<n∧-(n:Int)≤i∧i<n:=by
  unfold ixN at h
  by_cases h0:0≤i
  · rw [if_pos h0] at h
    by_cases h1:i<n
    · rw [if_pos h1] at h
      have e:i.toNat=j:=Option.some.inj h
      exact ⟨by rw [seqIndex_of h0 h1,e],by omega,by omega,h1⟩
    · rw [if_neg h1] at h;cases h
  · rw [if_neg h0] at h
    by_cases h1:-(n:Int)≤i
    · rw [if_pos h1] at h
      have e:(i+n).toNat=j:=Option.some.inj h
      exact ⟨by rw [seqIndex_neg (by omega) h1,e],by omega,h1,by omega⟩
    · rw [if_neg h1] at h;cases h
theorem atI_get {α:Type} {xs:List α} {i:Int} {v:α} (h:atI xs i=some v):∃ j,seqIndex? i xs.length=some j∧xs[j]?=some v∧j<xs.length∧-(xs.length:Int)≤i∧i<xs.length:=by
  unfold atI at h
  cases e:ixN xs.length i with
  | none=>rw [e] at h;cases h
  | some j=>
    rw [e] at h
    obtain ⟨h1,h2,h3,h4⟩:=ixN_seq e
    exact ⟨j,h1,h,h2,h3,h4⟩
def PlainIx (b:Expr):Prop:=∀ o i,subscripted b false o i=operate [o,i] (getItem o i)
def IxR (X:Cx) (r:R2):Prop:=
  ∀ (value slice:Expr) (pins:List (Addr×Obj)) (s:Shared) (σ:St) (H:Hp) (x y:V) (v u:Value) (Q:VK),Inv X pins σ H s→RelV x v→RelV y u→r x y H Q→
    subscripted slice false v u=operate [v,u] (getItem v u)→wpAny (model X.prog X.w) X.A (subscriptTail value slice v u) (EP X pins σ Q) X.xe s
def MtR (X:Cx) (id:String) (r:V→List V→Hp→VK→Prop):Prop:=
  ∀ (pins:List (Addr×Obj)) (s:Shared) (σ:St) (H:Hp) (x:V) (xs:List V) (v:Value) (us:List Value) (Q:VK),Inv X pins σ H s→RelV x v→Vals xs us→r x xs H Q→
    wpAny (model X.prog X.w) X.A (call (.builtin id) (v::us)) (EP X pins σ Q) X.xe s
section
variable {X:Cx} {a b:Expr} {ta tb:TE} {pos:Pos}
theorem IxR.or {r r':R2} (h:IxR X r) (h':IxR X r'):IxR X (fun x y H Q=>r x y H Q∨r' x y H Q):=by
  intro value slice pins s σ H x y v u Q I rx ry q hs
  rcases q with q | q
  · exact h value slice pins s σ H x y v u Q I rx ry q hs
  · exact h' value slice pins s σ H x y v u Q I rx ry q hs
theorem pe_ix {r:R2} (hr:IxR X r) (ha:PE X a ta) (hb:PE X b tb) (hs:PlainIx b):PE X (.Subscript a b pos) (tOp r ta tb):=by
  intro pins s σ H Q I h
  exact Subscript_ (binT ha hb I h fun v u s2 x y H2 I2 rx ry q=>hr a b pins s2 σ H2 x y v u Q I2 rx ry q (hs _ _))
def rIxL (K:PySem.W.Frag):R2:=fun x y H Q=>∃ p xs i v,x=.ref p∧y=.int i∧SqL K H p xs∧atI xs i=some v∧Q v H
def rIxT (K:PySem.W.Frag):R2:=fun x y H Q=>∃ p xs i v,x=.ref p∧y=.int i∧SqT K H p xs∧atI xs i=some v∧Q v H
theorem ix_list:IxR X (rIxL X.K):=by
  intro value slice pins s σ H x y v u Q I rx ry h hs
  obtain ⟨p,xs,i,z,rfl,rfl,hq,he,q⟩:=h
  cases rx
  obtain ⟨t,rfl⟩:=ry
  obtain ⟨its,r,pl,hz⟩:=I.list hq
  obtain ⟨j,h1,h2,h3,h4,h5⟩:=atI_get he
  obtain ⟨w,ew,rw'⟩:=r.get h2
  have hl:=r.length
  have hn:=line63
  have fin:EP X pins σ Q w s:=⟨z,H,I,rw',q⟩
  by_cases h0:0≤i
  · have hj:i.toNat=j:=by
      rw [seqIndex_of h0 h5] at h1
      exact Option.some.inj h1
    exact item_listR pl.isList h0 (by omega) (by rw [hj];simpa using ew) fin hs
  · have hj:(i+(its.toArray.size:Int)).toNat=j:=by
      rw [seqIndex_neg (by omega) h4] at h1
      rw [List.size_toArray,← hl]
      exact Option.some.inj h1
    exact subscriptTail_builtinR (x:=w) pl.isList.typeIs slot_list_getitem.lookup
      (wpAny_getItem_list_neg (Q:=fun r s'=>r=w∧EP X pins σ Q r s') pl.isList (by omega) (by rw [List.size_toArray]<;>omega) (by omega) (by rw [hj];simpa using ew) ⟨rfl,fin⟩) hs
theorem ix_tup:IxR X (rIxT X.K):=by
  intro value slice pins s σ H x y v u Q I rx ry h hs
  obtain ⟨p,xs,i,z,rfl,rfl,hq,he,q⟩:=h
  cases rx
  obtain ⟨t,rfl⟩:=ry
  obtain ⟨its,r,pl,hz⟩:=I.tuple hq
  obtain ⟨j,h1,h2,h3,h4,h5⟩:=atI_get he
  obtain ⟨w,ew,rw'⟩:=r.get h2
  have hl:=r.length
  have hn:=line63
  have fin:EP X pins σ Q w s:=⟨z,H,I,rw',q⟩
  exact subscriptTail_builtinR (x:=w) pl.typeIs slot_tuple_getitem.lookup
    (getItem_tuple (j:=j) (Q:=fun r s'=>r=w∧EP X pins σ Q r s') pl (by omega) (by omega) (by rw [List.size_toArray,← hl];exact h1) (by simpa using ew) ⟨rfl,fin⟩) hs
theorem slice_bounds (lo hi:Option Int) (n:Nat):(sliceBounds lo hi none n).1=((HT.sIx n 0 lo:Nat):Int)∧(sliceBounds lo hi none n).2.1=((HT.sIx n n hi:Nat):Int)∧(sliceBounds lo hi none n).2.2=1:=by
  refine ⟨?_,?_,rfl⟩
  · cases lo with
    | none=>simp [sliceBounds,HT.sIx]
    | some i=>
      simp only [sliceBounds,HT.sIx,Option.getD_none,show (1:Int)>0 by decide,if_true]
      by_cases h:i<0
      · simp only [h,if_true]<;>omega
      · simp only [h,if_false]<;>omega
  · cases hi with
    | none=>simp [sliceBounds,HT.sIx]
    | some i=>
      simp only [sliceBounds,HT.sIx,Option.getD_none,show (1:Int)>0 by decide,if_true]
      by_cases h:i<0
      · simp only [h,if_true]<;>omega
      · simp only [h,if_false]<;>omega
theorem slicePick_cut (its:List Value) (lo hi:Option Int):slicePick its.toArray lo hi none=((its.drop (HT.sIx its.length 0 lo)).take (HT.sIx its.length its.length hi-HT.sIx its.length 0 lo)).toArray:=by
  obtain ⟨h1,h2,h3⟩:=slice_bounds lo hi its.toArray.size
  unfold slicePick
  rw [h1,h2,h3]
  simp only [sliceRange_one,pick_run,List.size_toArray]<;>rfl
def rSlL (K:PySem.W.Frag):V→Option Int→Option Int→Hp→VK→Prop:=fun x lo hi H Q=>∃ a xs,x=.ref a∧SqL K H a xs∧∀ p,H p=none→Q (.ref p) (upd H p (.lst (cutV xs lo hi)))
theorem sl_list:SlR X (rSlL X.K):=by
  intro pins s σ H x v vl vu lo hi sl Q I rx hs pl pu h
  obtain ⟨a,xs,rfl,hx,q⟩:=h
  cases rx
  obtain ⟨its,r,ht,hz⟩:=I.list hx
  have hlen:=r.length
  refine ⟨"list",_,slot_list_getitem.lookup,ht.isList.typeIs,?_⟩
  refine wpAny_getItem_list_slice ht.isList hs pl pu .none (by simp) ?_ (by rw [List.size_toArray]<;>omega)
  rw [slicePick_cut,← hlen]
  refine ⟨.ref s.heap.objs.size,_,I.laid (t':=s.toks) (o:=.lst (cutV xs lo hi)) (fun b ob q=>Heap.get?_push_of_some _ q) (Nat.le_refl _) ?_,rfl,q _ (I.hok.fresh (Nat.le_refl _))⟩
  exact ⟨Nat.le_trans (cutV_length xs lo hi) hz,_,0,(r.drop (HT.sIx xs.length 0 lo)).take (HT.sIx xs.length xs.length hi-HT.sIx xs.length 0 lo),Heap.get?_push_size _ rfl⟩
theorem call_len_seq:CallR X (.builtin "len") (fun xs H Q=>∃ p ys,xs=[.ref p]∧(SqL X.K H p ys∨SqT X.K H p ys)∧Q (.int ys.length) H):=by
  intro pins s σ H xs us Q I r h
  obtain ⟨p,ys,rfl,hq,q⟩:=h
  obtain ⟨u,rfl,rx⟩:=vals1 r
  cases rx
  have hn:=line63
  rcases hq with hq | hq
  · obtain ⟨its,r',pl,hz⟩:=I.list hq
    have hlen:=r'.length
    exact Calls.call_len_list pl.isList (by simp only [List.size_toArray]<;>omega) ⟨.int ys.length,H,I.tok _,⟨s.toks+1,by rw [List.size_toArray,hlen]⟩,q⟩
  · obtain ⟨its,r',pl,hz⟩:=I.tuple hq
    have hlen:=r'.length
    exact len_tuple pl (by simp only [List.size_toArray]<;>omega) ⟨.int ys.length,H,I.tok _,⟨s.toks+1,by rw [List.size_toArray,hlen]⟩,q⟩
theorem call_list_of:CallR X (.type "list") (fun xs H Q=>∃ p ys,xs=[.ref p]∧(SqL X.K H p ys∨SqT X.K H p ys)∧∀ l,H l=none→Q (.ref l) (upd H l (.lst ys))):=by
  intro pins s σ H xs us Q I r h
  obtain ⟨p,ys,rfl,hq,q⟩:=h
  obtain ⟨u,rfl,rx⟩:=vals1 r
  cases rx
  have fin:∀ (its:List Value),Vals ys its→ys.length≤sizeLine→∀ (h':Heap) (c':Nat),(∀ b o',s.heap.get? b=some o'→h'.get? b=some o')→
      h'.get? s.heap.objs.size=some { cls:=.type "list",dict:=none,data:=.seq its.toArray c',slots:=#[] }→EP X pins σ Q (.ref s.heap.objs.size) { s with heap:=h' }:=fun its r' hz h' c' kp e=>
    ⟨.ref s.heap.objs.size,_,I.laid (t':=s.toks) kp (Nat.le_refl _) (show ObjOk X.prog X.w _ h' _ (.lst ys) from ⟨hz,its,c',r',e⟩),rfl,q _ (I.hok.fresh (Nat.le_refl _))⟩
  rcases hq with hq | hq
  · obtain ⟨its,r',pl,hz⟩:=I.list hq
    have hlen:=r'.length
    obtain ⟨o,ho,hc,n,hd⟩:=pl.isList
    exact call_list_seq p (.inl rfl) ho hc hd (fun h' c' kp e=>fin its r' hz h' c' kp e) (by simp only [List.size_toArray]<;>omega)
  · obtain ⟨its,r',pl,hz⟩:=I.tuple hq
    have hlen:=r'.length
    obtain ⟨o,ho,hc,n,hd⟩:=pl
    exact call_list_seq p (.inr rfl) ho hc hd (fun h' c' kp e=>fin its r' hz h' c' kp e) (by simp only [List.size_toArray]<;>omega)
def tyV (K:PySem.W.Frag) (T:String) (x:V) (H:Hp):Prop:=match x with
  | .str _=>T="str"
  | .int _=>T="int"
  | .ref p=>(T="list"∧∃ xs,SqL K H p xs)∨(T="tuple"∧∃ o,K.lookup p=some o∧o.cls=.type "tuple"∧o.dict=none)∨
      (T="dict"∧((∃ kvs,H p=some (.dK kvs))∨∃ kvs,H p=some (.dT kvs)))∨(T="set"∧∃ S n,H p=some (.set S n))
  | _=>False
theorem tyV_is {pins:List (Addr×Obj)} {σ:St} {H:Hp} {s:Shared} {T:String} {x:V} {v:Value} (I:Inv X pins σ H s) (r:RelV x v) (ty:tyV X.K T x H) :
    s.TypeIs v T∧∀ a,v=.ref a→∃ ob,s.heap.get? a=some ob∧ob.dict=none:=by
  cases x with
  | str z=>
    obtain ⟨t,rfl⟩:=r
    cases (show T="str" from ty)
    exact ⟨typeIs_str s z t,fun _ e=>nomatch e⟩
  | int i=>
    obtain ⟨t,rfl⟩:=r
    cases (show T="int" from ty)
    exact ⟨typeIs_int s i t,fun _ e=>nomatch e⟩
  | ref p=>
    cases r
    rcases ty with ⟨rfl,xs,hq⟩ | ⟨rfl,o,hk,hc,hd⟩ | ⟨rfl,hk⟩ | ⟨rfl,S,n,hk⟩
    · obtain ⟨its,_,pl,_⟩:=I.list hq
      refine ⟨pl.isList.typeIs,fun a e=>?_⟩
      cases e
      obtain ⟨o,n,e,c,hd,_⟩:=pl
      exact ⟨o,e,hd⟩
    · refine ⟨⟨o,I.kIn p o hk,hc⟩,fun a e=>?_⟩
      cases e
      exact ⟨o,I.kIn _ o hk,hd⟩
    · have z:∃ o,s.heap.get? p=some o∧o.ExactDict:=by
        rcases hk with ⟨kvs,hk⟩ | ⟨kvs,hk⟩
        · obtain ⟨_,_,_,_,o,_,_,e,ex,_⟩:=I.hok p _ hk
          exact ⟨o,e,ex⟩
        · obtain ⟨_,_,_,_,o,_,_,e,ex,_⟩:=I.hok p _ hk
          exact ⟨o,e,ex⟩
      obtain ⟨o,e,ex⟩:=z
      refine ⟨⟨o,e,ex.1⟩,fun a e2=>?_⟩
      cases e2
      exact ⟨o,e,ex.2.1⟩
    · obtain ⟨o,_,_,_,e,ex,_⟩:=I.hok p _ hk
      refine ⟨⟨o,e,ex.1⟩,fun a e2=>?_⟩
      cases e2
      exact ⟨o,e,ex.2.1⟩
  | _=>exact False.elim ty
def tBM (K:PySem.W.Frag) (T:String) (r:V→List V→Hp→VK→Prop) (to:TE) (t:TA):TE:=fun σ H Q=>to σ H fun x H1=>tyV K T x H1∧t σ H1 fun xs H2=>r x xs H2 Q
variable {o e:Expr} {es:List Expr} {to:TE} {t:TA} {name:Str} {apos cpos:Pos} {T id:String} {r:V→List V→Hp→VK→Prop}
theorem pe_bm (pa:PlainAttrs T) (slot:Slot T name id) (hty:typeOf (.builtin id)=pure (.type "method_descriptor")) (hm:MtR X id r) (ho:PE X o to) (ha:PA X (e::es) t)
    (hbase:attributeBase o name X.env (eval o X.env)=eval o X.env:=by rfl)
    (hfew:((backTo cpos (starEach (e::es) X.env)).all (fun x=>!x.1)&&(backToKw cpos (keywordEach [] X.env)).all (fun x=>x.1.isSome)
      && decide ((e::es).length+([]:List Keyword).length+(if ([]:List Keyword).isEmpty then 0 else 1)<30))=true:=by rfl)
    (hline:(apos.endLine==cpos.line)=true:=by rfl) (hs:starEach (e::es) X.env=(false,eval e X.env)::starEach es X.env:=by rfl) (hplain:(backTo cpos (starEach es X.env)).any (·.1)=false:=by rfl) :
    PE X (.Call (.Attribute o name apos) (e::es) [] cpos) (tBM X.K T r to t):=by
  intro pins s σ H Q I h
  refine wpAny_Call_method_late hbase hfew hline rfl (thn (ho pins s σ H _ I h) fun v s1 ⟨x,H1,I1,r1,ty,q1⟩=>?_)
  obtain ⟨h1,h2⟩:=tyV_is I1 r1 ty
  refine ⟨T,id,pa,slot,hty,h1,h2,?_⟩
  have hA:=ha cpos pins s1 σ H1 _ I1 q1
  rw [hs] at hA ⊢
  refine Calls.callWith_builtin (by show (false||(backTo cpos (starEach es X.env)).any (·.1))=false;rw [hplain]<;>rfl) (Calls.evalArgs_plain ?_)
  exact thn hA fun us s2 ⟨vs,H2,I2,r2,q2⟩=>hm pins s2 σ H2 x vs v us Q I2 r1 r2 q2
/- xs.append(e),list.index on a module's tuple .. are MtR facts of 06m -/
end
end L2
namespace L2
open PySem PySem.Spec PyProof.Rows
def MtM (X:Cx) (id:String) (r:V→List V→Hp→VK→Prop):Prop:=
  ∀ (pins:List (Addr×Obj)) (s:Shared) (σ:St) (H:Hp) (x:V) (xs:List V) (v:Value) (us:List Value) (Q:VK),Inv X pins σ H s→RelV x v→Vals xs us→r x xs H Q→
    wpAny (model X.prog X.w) X.A (call (.builtin id) (v::us)) (EP X pins σ Q) X.xe s
theorem Vals.one:∀ {x:V} {us:List Value},Vals [x] us→∃ u,us=[u]∧RelV x u
  | _,_,.cons r .nil=>⟨_,rfl,r⟩
theorem Vals.two:∀ {x y:V} {us:List Value},Vals [x,y] us→∃ u v,us=[u,v]∧RelV x u∧RelV y v
  | _,_,_,.cons r (.cons q .nil)=>⟨_,_,rfl,r,q⟩
section
variable {X:Cx} {pins:List (Addr×Obj)} {σ:St} {H:Hp} {s:Shared} {l b:Addr} {xs ys zs:List V}
theorem Inv.lset {its its':List Value} {n:Nat} {f:Array Value→Array Value} {t':Nat} (I:Inv X pins σ H s) (hH:H l=some (.lst xs))
    (e:s.heap.get? l=some { cls:=.type "list",data:=.seq its.toArray n }) (hf:f its.toArray=its'.toArray) (hv:Vals ys its') (hz:ys.length≤sizeLine) :
    Inv X pins σ (upd H l (.lst ys)) { s with heap:=s.heap.update l (Obj.mapSeq f),toks:=t' }:=by
  have q:=PySem.IsL.update e f
  rw [hf] at q
  refine I.write (x:=l) (e:=l) (by rw [hH];exact trivial) (.inl rfl) (fun b' u hb hu=>(Heap.get?_update_other s.heap (Obj.mapSeq f) (Ne.symm hb)).trans hu) ⟨_,q⟩ ?_
  exact ⟨hz,its',_,hv,q⟩
theorem Inv.lnew {its:List Value} {t':Nat} (I:Inv X pins σ H s) (hv:Vals ys its) (hz:ys.length≤sizeLine) :
    Inv X pins σ (upd H s.heap.objs.size (.lst ys)) { s with heap:=s.heap.push { cls:=.type "list",data:=.seq its.toArray },toks:=t' }:=
  I.laid (fun _ _ q=>Heap.get?_push_of_some _ q) (Nat.le_refl _) ⟨hz,its,0,hv,Heap.get?_push_size _ rfl⟩
theorem Inv.fresh (I:Inv X pins σ H s):H s.heap.objs.size=none:=I.hok.fresh (Nat.le_refl _)
theorem Inv.lstM (I:Inv X pins σ H s) (hH:H l=some (.lst xs)):xs.length≤sizeLine∧∃ (its:List Value) (n:Nat),Vals xs its∧xs.length=its.length∧s.heap.get? l=some { cls:=.type "list",data:=.seq its.toArray n }:=by
  obtain ⟨z,its,n,r,e⟩:=I.hok l _ hH
  exact ⟨z,its,n,r,r.length,e⟩
theorem notLongL {n:Nat} (h:n≤sizeLine):Builtin.List.listTooLong n=false:=by
  unfold Builtin.List.listTooLong
  exact decide_eq_false (by omega)
end
section
variable {X:Cx}
def rAppend:V→List V→Hp→VK→Prop:=fun x vs H Q=>∃ l xs y,x=.ref l∧vs=[y]∧H l=some (.lst xs)∧xs.length<sizeLine∧Q .non (upd H l (.lst (xs++[y])))
theorem mt_append:MtM X "list.append" rAppend:=by
  intro pins s σ H x vs v us Q I rx rv h
  obtain ⟨l,xs,y,rfl,rfl,hH,hz,q⟩:=h
  cases rx
  obtain ⟨u,rfl,ru⟩:=rv.one
  obtain ⟨z,its,n,r,hl,e⟩:=I.lstM hH
  refine call_meets F.slot_list_append ⟨_,e,rfl⟩ F.entry_list_append (F.args_list_append_2 _ _) (PySem.list_append l its.toArray n u (by rw [List.size_toArray];omega)) ⟨e,?_⟩
  refine ⟨.non,_,I.lset (its':=its++[u]) hH e (by simp) (r.append (.cons ru .nil)) ?_,rfl,q⟩
  rw [List.length_append,List.length_singleton]
  omega
end
section
variable {prog:Program} {w:World} {A:Around} {E:Value→Shared→Prop} {s:Shared}
end
section
variable {X:Cx}
end
end L2
namespace Att
open PySem PySem.W PySem.Calls PyProof.Rows
theorem ints_of_wellAll {P:Params} {h:Heap}:∀ (ns:List Int) (vs:List Value),WellAll P h vs (ns.map WData.int)→IntsAre vs ns:=by
  intro ns
  induction ns with
  | nil=>
    intro vs w
    rw [List.map_nil] at w
    cases w
    exact .nil
  | cons n ns ih=>
    intro vs w
    rw [List.map_cons] at w
    cases w with
    | cons a b=>
      cases a
      exact .cons _ _ (ih _ b)
theorem script_of {l:OpenLaw} {n:Nat} (hn:l.most=some n) {P:Params} {h:Heap} {args:List WData} {vals:List Value}
    (hpre:l.row.toRowW.claim.pre args=true) (hwl:WellAll P h vals args) :
    ∃ a vs ns,vals=[Value.ref a]∧args=[WData.list (ns.map WData.int)]∧h.get? a=some { cls:=.type "list",data:=.seq vs.toArray }∧IntsAre vs ns∧ns.length≤n:=by
  have hsh:WShape.hasAll [] args [.list .int]=true:=(pre_splitW hpre).1
  have hc:l.pre.holds [] { args:=args }=true:=(pre_splitW hpre).2
  obtain ⟨d,r,rfl,h1,h2⟩:=hasAllW_cons hsh
  obtain rfl:=hasAllW_nil h2
  obtain ⟨xs,rfl,h3⟩:=hasW_list h1
  obtain ⟨ns,rfl⟩:=items_int h3
  have hlen:ns.length≤n:=by
    unfold OpenLaw.pre at hc
    have h4:(WTm.not (.lt (.lit (.int (n:Int))) (.len (.arg 0)))).holds [] { args:=[.list (ns.map .int)] }=true:=by
      have h4:=(holds_andW hc).1
      rw [hn] at h4
      exact h4
    have h5:=condW_of h4 (w_not (w_lt w_lit (w_len_list (w_arg rfl))))
    rw [List.length_map] at h5
    refine Nat.le_of_not_lt fun q=>?_
    have q':(n:Int)<((ns.length:Nat):Int):=by omega
    first
      | (rw [decide_eq_true q'] at h5;exact absurd h5 (by decide))
      | (simp at h5;omega)
  cases hwl with
  | cons w1 w2=>
    cases w2
    cases w1 with
    | list ho hall=>exact ⟨_,_,ns,rfl,rfl,ho,ints_of_wellAll ns _ hall,hlen⟩
theorem post_true (l:OpenLaw) (args:List WData):l.row.toRowW.claim.post args (.bool true) args=true:=
  postW_of (r:=l.row.toRowW) (X:=(true==true))
    (show WShape.has [] (.bool true) .bool=true by first | rfl | decide | simp [WShape.has,WShape.arms,WShape.armsAll])
    (show (WTm.eq .res (.lit (.bool true))).value [] { args:=args,res:=some (.bool true),after:=args }=some (.bool (true==true)) from w_eq_bool (w_res rfl) w_lit) rfl
theorem attach_call {l:OpenLaw} {n:Nat} {q:Program} {loose:List Str} {XP:(Str→Option Value)→Heap→Prop} {YP:World→Heap→Prop} {d:DefRec}
    (hn:l.most=some n) (hdf:d.params.defaults=[])
    (call:∀ (w:World) (s₀ s₁:Shared) (mg mb:Str→Option Value) (fa:Addr) (o:Obj) (pm cd doc:Value) (a:Addr) (vs:List Value) (ns:List Int),
      Ground q loose [] XP w s₀ mg mb s₁.heap→YP w s₁.heap→
      s₁.heap.get? fa=some o→o.data=.func (docDef d.name d.params d.body d.scope pm cd doc)→s₁.heap.CodeRec cd d.name→mg d.name=some (.ref fa)→
      s₁.heap.get? a=some { cls:=.type "list",data:=.seq vs.toArray }→IntsAre vs ns→ns.length≤n→s₁.gens=#[]→
      codeAny (model l.prog w) callerA (.call (.ref fa) ⟨[.ref a],[]⟩) (fun r s'=>r=.ok (.ret (.bool true))∧OldK s₁.heap s'.heap∧s'.os=s₁.os∧AllBare s'.gens) s₁) :
    WalkO q loose XP YP l.row.toRowW d [] (fun f vs=>PySem.call f vs):=by
  intro w s₀ s₁ mg mb G Y fa o pm cd doc dV kV ho hd hcd hD hmg hg args vals as hpre hlay hrd hwl hlo
  obtain rfl:dV=.none:=Dflts.none hD hdf
  obtain rfl:kV=.none:=Dflts.noKw hD
  obtain ⟨a,vs,ns,rfl,rfl,hobj,hints,hlen⟩:=script_of hn hpre hwl
  refine enter_call (codeAny_mono (call w s₀ s₁ mg mb fa o pm cd doc a vs ns G Y ho (fd_plain hd) hcd hmg hobj hints hlen hg) fun r s' hq=>?_)
  obtain ⟨rfl,h2,h3,h4⟩:=hq
  exact ⟨.inl ⟨.bool true,.bool true,[],rfl,fun _=>rfl,.bool true,post_true l _,fun _=>⟨List.Pairwise.nil,fun _ hm=>(nomatch hm)⟩⟩,h2,h3,h4⟩
section
variable {prog:Program} {w:World} {A:Around} {E:Value→Shared→Prop} {s:Shared} {K:Frag}
end
end Att
namespace L2
open PySem PySem.Spec PyProof.Rows
theorem vals_ints:∀ {vs:List Value} {ns:List Int},IntsAre vs ns→Vals (ns.map V.int) vs
  | _,_,.nil=>.nil
  | _,_,.cons n t h=>.cons ⟨t,rfl⟩ (vals_ints h)
def Only (H:Hp):Prop:=∀ b,H b=none∨∃ o xs,H b=some (.frz o (.lst xs))
theorem law_call {P:Program} {w:World} {K:PySem.W.Frag} {mg mb:Str→Option Value} {CX:CXT} {k:Nat} {fa a:Addr} {fd:FuncData} {x:Str} {sp:Sp} {s₁:Shared} {vs:List Value} {ns:List Int}
    (KX:K.In s₁.heap) (hns:s₁.heap.Ns mainGlobals mg) (hb:s₁.heap.Ns builtinsNs mb) (hbb:∀ x:Str,x≠"__name__"→mb x=bootBuiltins x) (hlim:s₁.heap.NoLimit) (hg:s₁.gens=#[])
    (ha:s₁.heap.get? a=some { cls:=.type "list",data:=.seq vs.toArray }) (hi:IntsAre vs ns) (hl:ns.length≤sizeLine) (hr:Room k callerA)
    (F:∀ base:Heap,K.In base→base.Ns mainGlobals mg→FnOk P w K mg base CX k fa fd [x] sp) (hbind:∀ (s:Shared) (u:Value),BindsTo s fd ⟨[u],[]⟩ [(x,u)])
    (hsp:∀ H:Hp,Only H→SqL K H a (ns.map V.int)→sp [.ref a] H (fun v _=>v=.bl true) fun _ _ _=>False)
    (hCX:∀ H e s',CX [] H s₁ (fun _ _ _=>False) e s'→False) :
    codeAny (model P w) callerA (.call (.ref fa) ⟨[.ref a],[]⟩) (fun r s'=>r=.ok (.ret (.bool true))∧OldK s₁.heap s'.heap∧s'.os=s₁.os∧AllBare s'.gens) s₁:=by
  have rv:=vals_ints hi
  have lenV:=hi.length
  have core:∀ H:Hp,Only H→SqL K H a (ns.map V.int)→HOk P w H s₁.heap→(∀ b,H b≠none→b=a)→(H a≠none→K.lookup a=none)→
      codeAny (model P w) callerA (.call (.ref fa) ⟨[.ref a],[]⟩) (fun r s'=>r=.ok (.ret (.bool true))∧OldK s₁.heap s'.heap∧s'.os=s₁.os∧AllBare s'.gens) s₁:=by
    intro H hO hS hok hA hK
    have base_of:∀ {b:Addr} {o:Obj},s₁.heap.get? b=some o→H b=none→(hidT s₁.heap H).get? b=some o:=fun e n=>hidT_get e n
    have noA:∀ {b:Addr} {o:Obj} {es:Array DictEntry} {ep:Nat},s₁.heap.get? b=some o→o.data=.dict es ep→H b=none:=fun {b o es ep} e d=>by
      cases q:H b with
      | none=>rfl
      | some u=>
        have e':b=a:=hA b (by rw [q];simp)
        subst e'
        rw [ha] at e;cases e
        have d':Data.seq vs.toArray _=Data.dict es ep:=d
        cases d'
    have nsK:∀ {b:Addr} {m:Str→Option Value},s₁.heap.Ns b m→(hidT s₁.heap H).Ns b m:=fun {b m} ⟨o,es,ep,e,d,r⟩=>⟨o,es,ep,base_of e (noA e d),d,r⟩
    have hKb:K.In (hidT s₁.heap H):=fun b o e=>base_of (KX b o e) (by
      cases q:H b with
      | none=>rfl
      | some u=>
        have e':b=a:=hA b (by rw [q];simp)
        subst e'
        rw [hK (by rw [q];simp)] at e;cases e)
    have hM:Mod K mg (hidT s₁.heap H):=⟨hKb,nsK hns,⟨mb,nsK hb,hbb⟩,let ⟨mc,h1,h2⟩:=hlim;⟨mc,nsK h1,h2⟩⟩
    have e0:Env0 P w K mg (hidT s₁.heap H) callerA [] s₁ H:=⟨rfl,hM,fun b o e=>of_hidT e,Nat.le_of_eq (hidT_size _ _),trivial,fun b hb=>absurd (show b∈([]:List Addr) from hb) (by simp),hok,.of_eq hg⟩
    refine codeAny_mono ((F _ hKb (nsK hns)).run callerA [] s₁ H ⟨[.ref a],[]⟩ [.ref a] [.ref a] _ _ hr e0 (hbind s₁ (.ref a)) (.cons rfl .nil) (hsp H hO hS)) fun r s' h=>?_
    cases r with
    | error e=>exact (hCX H e s' h).elim
    | ok fl=>
      cases fl with
      | next=>exact False.elim h
      | brk=>exact False.elim h
      | cont=>exact False.elim h
      | ret u=>
        obtain ⟨v,H',os,bare,un,hok',r',q⟩:=h
        have q':v=.bl true:=q
        subst q'
        obtain rfl:u=Value.bool true:=r'
        refine ⟨rfl,OldK.of_keep fun b o e=>?_,os,bare⟩
        cases q:H b with
        | none=>exact un.keep b o e q (by intro z;exact absurd (show b∈([]:List Addr) from z) (by simp)) (by simp)
        | some u=>
          rcases hO b with z | ⟨ob,xs,z⟩
          · rw [q] at z;cases z
          · have z2:=un.frzs b ob _ z
            obtain ⟨e1,_⟩:=hok b _ z
            obtain ⟨e2,_⟩:=hok' b _ z2
            rw [e] at e1;cases e1
            exact e2
  cases hk:K.lookup a with
  | some o=>
    have e:=KX a o hk
    rw [ha] at e
    cases e
    refine core (fun _=>none) (fun _=>.inl rfl) (.inr ⟨_,vs.toArray,_,hk,rfl,rfl,rfl,by rw [List.size_toArray,lenV];exact hl,by simpa using rv⟩) (fun b u z=>by have z':(none:Option HO)=some u:=z;cases z') (fun b z=>absurd rfl z) fun z=>absurd rfl z
  | none=>
    refine core (fun b=>if b=a then some (.frz { cls:=.type "list",data:=.seq vs.toArray } (.lst (ns.map V.int))) else none) (fun b=>?_) (.inl (.inr ⟨{ cls:=.type "list",data:=.seq vs.toArray },if_pos rfl⟩)) (fun b u z=>?_) (fun b z=>?_) fun _=>hk
    · by_cases hb:b=a
      · exact .inr ⟨_,_,if_pos hb⟩
      · exact .inl (if_neg hb)
    · by_cases hb:b=a
      · have z':=(if_pos hb).symm.trans z
        cases z'
        subst hb
        exact ⟨ha,by rw [List.length_map];exact hl,vs,_,rv,ha⟩
      · have z':=(if_neg hb).symm.trans z
        cases z'
    · by_cases hb:b=a
      · exact hb
      · exact absurd (if_neg hb) z
end L2
namespace L2
open PySem PySem.Spec PyProof.Rows
theorem walk_of {l:PySem.W.OpenLaw} {n k:Nat} {q:Program} {loose:List Str} {XP:(Str→Option Value)→Heap→Prop} {YP:World→Heap→Prop} {d:DefRec} {K:Params→PySem.W.Frag} {CX:World→CXT} {sp:World→Sp} {x:Str}
    (hn:l.most=some n) (hn2:n≤sizeLine) (hdf:d.params.defaults=[]) (hr:Room k callerA)
    (hY:∀ (w:World) (h:Heap),YP w h→(K w.params).In h)
    (F:∀ (w:World) (mg:Str→Option Value) (fa:Addr) (h:Heap),(K w.params).In h→h.Ns mainGlobals mg→mg d.name=some (.ref fa)→
      ∃ fd:FuncData,(∀ (s:Shared) (u:Value),BindsTo s fd ⟨[u],[]⟩ [(x,u)])∧
        ∀ base:Heap,(K w.params).In base→base.Ns mainGlobals mg→FnOk l.prog w (K w.params) mg base (CX w) k fa fd [x] (sp w))
    (hsp:∀ (w:World) (H:Hp) (a:Addr) (ns:List Int),ns.length≤n→Only H→SqL (K w.params) H a (ns.map V.int)→sp w [.ref a] H (fun v _=>v=.bl true) fun _ _ _=>False)
    (hCX:∀ (w:World) (H:Hp) (s:Shared) (e:Value) (s':Shared),CX w [] H s (fun _ _ _=>False) e s'→False) :
    PySem.W.WalkO q loose XP YP l.row.toRowW d [] (fun f vs=>PySem.call f vs):=by
  refine Att.attach_call hn hdf fun w s₀ s₁ mg mb fa o pm cd doc a vs ns G Y ho hd hcd hmg hobj hints hlen hg=>?_
  have KX:=hY w _ Y
  obtain ⟨fd,hb,hF⟩:=F w mg fa _ KX G.T.g hmg
  exact law_call KX G.T.g G.T.b G.T.builtins G.T.nolimit hg hobj hints (Nat.le_trans hlen hn2) hr hF hb (fun H hO hS=>hsp w H a ns hlen hO hS) fun H e s'=>hCX w H s₁ e s'
end L2
/- THE LAST THEOREM (shape;LID,My.* are yours):
   My.Adr: a structure of the addresses that your layer names (classes,functions);My.Txt K t: a structure (Prop) of the equations over K;
   My.txt_mk:{K} {implicit addresses ..} (e1:nsIn K mainGlobals "law"=some (some (.ref f))) (e2:K.lookup f=some ⟨oc,od,.func (fnOf "law" "law" params body scope dV kV doc pm an cdv ct),sl⟩) (e3:codeIn K cdv "law"=true) ..:∃ t,My.Txt K t
(the tactic k_is has no namespace: write k_is) -/
namespace L2
open PySem PySem.Spec PyProof.Rows
def defArgs (s:Stmt):Arguments:=match s with
  | .FunctionDef _ a _ _ _ _ _ _ _ _=>a
  | _=>{ posonlyargs:=[],args:=[],vararg:=none,kwonlyargs:=[],kw_defaults:=[],kwarg:=none,defaults:=[] }
def defBody (s:Stmt):List Stmt:=match s with
  | .FunctionDef _ _ b _ _ _ _ _ _ _=>b
  | _=>[]
def defScope (s:Stmt):Scope:=match s with
  | .FunctionDef _ _ _ _ _ _ sc _ _ _=>sc
  | _=>{ kind:=.function,names:=[],isGenerator:=false,isCoroutine:=false }
abbrev CX0:CXT:=fun _ _ _ _ _ _=>False
abbrev E0:XK:=fun _ _ _=>False
theorem pass0 {X:Cx}:Passes CX0 X E0:=fun _ _ _ _ _ _ _ h=>h.elim
structure Fun (K:PySem.W.Frag) (x qual:Str) (st:Stmt) (f:Addr) (fd:FuncData):Prop where
  ex:∃ (oc:Value) (od:Option Addr) (kV doc pm:Value) (an:Option Addr) (cdv ct:Value) (osl:Array (Option Value)),
    fd=PySem.W.fnOf x qual (defArgs st) (defBody st) (defScope st) .none kV doc pm an cdv ct∧K.lookup f=some ⟨oc,od,.func fd,osl⟩∧PySem.W.codeIn K cdv qual=true
  kp:PySem.W.keepIn K (.ref f)=true
section
variable {P:Program} {w:World} {K:PySem.W.Frag} {mg:Str→Option Value} {base:Heap}
theorem Fun.ok {x qual:Str} {st:Stmt} {f:Addr} {fd:FuncData} {N ps:List Str} {k:Nat} {sp:Sp} (F:Fun K x qual st f fd) (S:FnScope N ps (defScope st)) (len:∀ vs H Q E,sp vs H Q E→vs.length=ps.length)
    (hbody:∀ (cdv:Value) (A:Around) (outer:List Env) (s:Shared) (H:Hp) (vs:List V) (Q:VK) (E:XK),Room k (A.deeper (envOfC qual (defScope st) s.heap.objs.size f cdv))→sp vs H Q E→
      ∃ t,PSs (cxOf CX0 P w K mg base N qual (defScope st) f cdv A outer s H E).nox (defBody st) t∧t { nx:=fun _ H'=>Q .non H',rt:=Q } (start N vs) H):FnOk P w K mg base CX0 (k+1) f fd ps sp:=by
  obtain ⟨oc,od,kV,doc,pm,an,cdv,ct,osl,rfl,lk,hcd⟩:=F.ex
  refine fn_of lk hcd S len fun A outer s H vs Q E hr hsp=>?_
  obtain ⟨t,h,q⟩:=hbody cdv A outer s H vs Q E hr hsp
  exact ⟨t,h.nox,q⟩
theorem Fun.binds {x qual:Str} {st:Stmt} {f:Addr} {fd:FuncData} {ps:List Str} (F:Fun K x qual st f fd)
    (h:∀ (kV doc pm:Value) (an:Option Addr) (cdv ct:Value) (us:List Value),us.length=ps.length→bindArgs (PySem.W.fnOf x qual (defArgs st) (defBody st) (defScope st) .none kV doc pm an cdv ct) ⟨us,[]⟩=pure (ps.zip us)):Binds K fd ps []:=by
  obtain ⟨oc,od,kV,doc,pm,an,cdv,ct,osl,rfl,lk,hcd⟩:=F.ex
  exact .all (h kV doc pm an cdv ct)
theorem fun_mk {x qual:Str} {st:Stmt} {f:Addr} {oc:Value} {od an:Option Addr} {osl:Array (Option Value)} {kV doc pm cdv ct:Value} (l:K.lookup f=some ⟨oc,od,.func (PySem.W.fnOf x qual (defArgs st) (defBody st) (defScope st) .none kV doc pm an cdv ct),osl⟩)
    (c:PySem.W.codeIn K cdv qual=true) (k:PySem.W.keepIn K (.ref f)=true):Fun K x qual st f (PySem.W.fnOf x qual (defArgs st) (defBody st) (defScope st) .none kV doc pm an cdv ct):=⟨⟨oc,od,kV,doc,pm,an,cdv,ct,osl,rfl,l,c⟩,k⟩
end
theorem hu_of {A:Around} {k:Nat} (hr:Room k A):A.units+1<cLine:=Nat.lt_of_le_of_lt (Nat.add_le_add_left (by decide:1≤64) _) hr.units
theorem small1000 {n:Nat} (h:n≤1000):n<sizeLine:=Nat.lt_of_le_of_lt h (by decide)
section
variable {X:Cx}
end
theorem iteF {A B:Prop} (h:B):if false=true then A else B:=by
  rw [if_neg Bool.false_ne_true]
  exact h
theorem iteT {A B:Prop} (h:A):if true=true then A else B:=by
  rw [if_pos rfl]
  exact h
def Same (H H':Hp):Prop:=∀ b o,H b=some o→H' b=some o
theorem Same.refl (H:Hp):Same H H:=fun _ _ h=>h
theorem Same.trans {H H1 H2:Hp} (a:Same H H1) (b:Same H1 H2):Same H H2:=fun c o h=>b c o (a c o h)
theorem Same.free {H H':Hp} (e:Same H H') {l:Addr} (h:H' l=Option.none):H l=Option.none:=by
  cases q:H l with
  | none=>rfl
  | some o=>
    rw [e l o q] at h
    cases h
theorem Same.seq {K:PySem.W.Frag} {H H':Hp} {a:Addr} {xs:List V} (e:Same H H') (h:SqL K H a xs):SqL K H' a xs:=by
  rcases h with (h | ⟨o,h⟩) | h
  · exact .inl (.inl (e _ _ h))
  · exact .inl (.inr ⟨o,e _ _ h⟩)
  · exact .inr h
end L2
namespace L2
open PySem PySem.Spec PyProof.Rows
section
variable {κ:Type} [DecidableEq κ]
end
theorem kV_is {P:Program} {w:World} {k:Key} {u:Value} (r:RelV (kV k) u):(mixKind P w).is k u=true:=by
  cases k with
  | inl i=>obtain ⟨t,e⟩:=(show ∃ t,u=Value.int i t from r);subst e;exact mixKind_int P w i t
  | inr x=>obtain ⟨t,e⟩:=(show ∃ t,u=Value.str x t from r);subst e;exact mixKind_str P w x t
theorem items_are {P:Program} {w:World}:∀ {ks:List Key} {us:List Value},Vals (ks.map kV) us→ItemsAre (mixKind P w) ks us
  | [],_,r=>by rw [List.map_nil] at r;cases r;exact .nil
  | k::ks,_,r=>by
    rw [List.map_cons] at r
    cases r with
    | cons h t=>exact .cons (kV_is h) (items_are t)
section
variable {P:Program} {w:World} {H:Hp} {h:Heap} {a:Addr}
end
section
variable {X:Cx} {pins:List (Addr×Obj)} {σ:St} {H:Hp} {s:Shared} {a:Addr} {y v:V} {u r:Value} {o:Option V} {A:Around} {E:Value→Shared→Prop}
theorem Inv.big (I:Inv X pins σ H s):sysModules<s.heap.objs.size:=by
  have h:mainGlobals<s.heap.objs.size:=(I.mod.glob.keeps I.bk).lt
  exact Nat.lt_trans (by decide) h
end
section
variable {X:Cx} {pins:List (Addr×Obj)} {σ:St} {H:Hp} {s:Shared} {a:Addr} {kvs:List (Key×V)} {k:Key} {u:Value} {A:Around} {E:Value→Shared→Prop}
end
section
variable {X:Cx} {o i e value:Expr} {pos pos' tpos:Pos} {td ty tv:TE}
end
section
variable {X:Cx} {pos:Pos}
end
structure M1 (X:Cx) (o:Expr) (m:Str) (apos:Pos) (e:Expr) (cpos:Pos):Prop where
  base:attributeBase o m X.env (eval o X.env)=eval o X.env
  few:((backTo cpos (starEach [e] X.env)).all (fun x=>!x.1)&&(backToKw cpos (keywordEach [] X.env)).all (fun x=>x.1.isSome)
    && decide (([e]:List Expr).length+([]:List Keyword).length+(if ([]:List Keyword).isEmpty then 0 else 1)<30))=true
  line:(apos.endLine==cpos.line)=true
  trees:backTo cpos (starEach [e] X.env)=[(false,eval e X.env)]
structure M2 (X:Cx) (o:Expr) (m:Str) (apos:Pos) (e f:Expr) (cpos:Pos):Prop where
  base:attributeBase o m X.env (eval o X.env)=eval o X.env
  few:((backTo cpos (starEach [e,f] X.env)).all (fun x=>!x.1)&&(backToKw cpos (keywordEach [] X.env)).all (fun x=>x.1.isSome)
    && decide (([e,f]:List Expr).length+([]:List Keyword).length+(if ([]:List Keyword).isEmpty then 0 else 1)<30))=true
  line:(apos.endLine==cpos.line)=true
  trees:backTo cpos (starEach [e,f] X.env)=[(false,eval e X.env),(false,eval f X.env)]
section
variable {X:Cx} {pins:List (Addr×Obj)} {σ:St} {H:Hp} {s:Shared} {a:Addr} {y d:V} {u r:Value} {o:Option V} {A:Around} {E:Value→Shared→Prop}
end
section
variable {X:Cx} {o e f:Expr} {apos cpos:Pos} {td ty tx:TE}
end
section
variable {X:Cx} {pins:List (Addr×Obj)} {σ:St} {H:Hp} {s:Shared} {a:Addr} {kvs:List (Key×V)} {A:Around} {E:Value→Shared→Prop}
end
section
variable {X:Cx} {pins:List (Addr×Obj)} {σ:St} {H:Hp} {s:Shared} {a:Addr} {y:V} {u:Value} {A:Around} {E:Value→Shared→Prop}
end
end L2
namespace St
open PySem L2
theorem ofA_val (n:Nat) {v:Value} (h:carriedByValue v=true):ofAClassStatement n v=pure false:=by
  cases v with
  | ref a=>simp [carriedByValue] at h
  | _=>first | rfl | (unfold ofAClassStatement;rfl) | (cases n<;>rfl)
theorem hbv_val (n:Nat) {k:Key} {v:Value} (h:keyIs k v=true):∃ b,hashByValue n v=pure b:=by
  rcases keyIs_shape h with ⟨i,t,rfl,rfl⟩ | ⟨x,t,rfl,rfl⟩
  · exact ⟨true,by cases n<;>simp [hashByValue]⟩
  · exact ⟨false,by cases n<;>simp [hashByValue]⟩
theorem sk_tuple {prog:Program} {w:World}:SK (tupleKind (mixKind prog w)) where
  cls:=fun {A E s k a Q} hk h=>by
    have hT:s.TypeIs (.ref a) "tuple":=IsTupleKey.typeIs hk
    obtain ⟨o,items,n,ho,_,hd,hi⟩:=hk
    unfold ofAClassStatement
    refine wpAny_bind (wpAny_typeOf hT ?_)
    dsimp only
    simp only [beq_self_eq_true,if_true]
    refine wpAny_bind (wpAny_pure ?_)
    simp only [Bool.not_true,Bool.false_eq_true,if_false]
    refine wpAny_bind (wpAny_seqItems ho hd ?_)
    dsimp only
    refine wpAny_bind ?_
    rw [← Array.forIn_toList]
    refine wpAny_forIn_list _ (fun rest r s'=>r.1=none∧s'=s∧∀ v∈rest,carriedByValue v=true) _ ?_ ?_ _ _ ⟨rfl,rfl,hi.byValue⟩
    · rintro v rest r s' ⟨hr,rfl,hall⟩
      rw [ofA_val _ (hall v List.mem_cons_self)]
      refine wpAny_bind (wpAny_pure ?_)
      simp only [Bool.false_eq_true,if_false]
      exact wpAny_pure ⟨rfl,rfl,fun u hu'=>hall u (List.mem_cons_of_mem _ hu')⟩
    · rintro ⟨r1,r2⟩ s' ⟨hr,rfl,_⟩
      simp only at hr
      subst hr
      exact wpAny_pure h
  hbv:=fun {A E s k a Q} hk h=>by
    have hT:s.TypeIs (.ref a) "tuple":=IsTupleKey.typeIs hk
    obtain ⟨o,items,n,ho,_,hd,hi⟩:=hk
    unfold hashByValue
    refine wpAny_bind (wpAny_specialOf hT F.slot_tuple_hash.lookup ?_)
    dsimp only
    refine wpAny_bind (wpAny_seqItems ho hd ?_)
    refine wpAny_bind ?_
    show wpAny _ _ (forIn items _ _) _ _ s
    rw [← Array.forIn_toList]
    refine wpAny_forIn_list _ (fun rest r s'=>r.1=none∧s'=s∧∃ ks,ItemsAre (mixKind prog w) ks rest) _ ?_ ?_ _ _ ⟨rfl,rfl,_,hi⟩
    · rintro v rest r s' ⟨hr,rfl,ks,hks⟩
      cases hks with
      | cons h1 hr'=>
        obtain ⟨b,hb⟩:=hbv_val 7 h1
        rw [hb]
        refine wpAny_bind (wpAny_pure ?_)
        cases b with
        | true=>
          simp only [Bool.not_true,Bool.false_eq_true,if_false]
          exact wpAny_pure ⟨rfl,rfl,_,hr'⟩
        | false=>
          simp only [Bool.not_false,if_true]
          exact wpAny_pure (wpAny_pure (h _))
    · rintro ⟨r1,r2⟩ s' ⟨hr,rfl,_⟩
      simp only at hr
      subst hr
      exact wpAny_pure (h _)
theorem key_keep {prog:Program} {w:World} {h h':Heap} {ks:List Key} {a:Addr} (x:(tupleKind (mixKind prog w)).is h ks a) (k:∀ o,h.get? a=some o→h'.get? a=some o):(tupleKind (mixKind prog w)).is h' ks a:=by
  obtain ⟨o,items,n,ho,hc,hd,hi⟩:=x
  exact ⟨o,items,n,k o ho,hc,hd,hi⟩
theorem SetAt.keep {prog:Program} {w:World} {K:Type} [DecidableEq K] {knd:HeapKind prog w K} {h h':Heap} {a:Addr} {xs:List (K×Addr)} (x:SetAt knd a xs h) (k:∀ o,h.get? a=some o→h'.get? a=some o):SetAt knd a xs h':=by
  obtain ⟨o,es,ep,t,ho,rest⟩:=x
  exact ⟨o,es,ep,t,k o ho,rest⟩
def addK {K:Type} [DecidableEq K] (xs:List (K×Addr)) (x:K×Addr):List (K×Addr):=if x.1∈xs.map (·.1) then xs else xs++[x]
section
variable {prog:Program} {w:World} {A:Around} {E:Value→Shared→Prop} {s:Shared} {R:Result→Shared→Prop}
theorem addK_len (xs:List (List Key×Addr)) (x:List Key×Addr):(addK xs x).length≤xs.length+1:=by unfold addK;split<;>simp
theorem addK_mem {xs:List (List Key×Addr)} {x y:List Key×Addr} (h:y∈addK xs x):y∈xs∨y=x:=by
  unfold addK at h
  split at h
  · exact .inl h
  · simpa using h
theorem setAdd_ok (hu:A.units<cLine) {a b:Addr} {k:List Key} {xs:List (List Key×Addr)} (hS:SetAt (tupleKind (mixKind prog w)) a xs s.heap) (his:∀ x∈xs,(tupleKind (mixKind prog w)).is s.heap x.1 x.2) (hkey:(tupleKind (mixKind prog w)).is s.heap k b) (hl:xs.length+1≤4914) {Q:Bool→Shared→Prop}
    (h:∀ r h' tk,Heap.SameBut a s.heap h'→SetAt (tupleKind (mixKind prog w)) a (addK xs (k,b)) h'→Q r { s with heap:=h',toks:=tk }):wpAny (model prog w) A (setAdd a (.ref b)) Q E s:=by
  unfold setAdd
  refine wpAny_holding ?_
  refine wpAny_bind ((tupleKind (mixKind prog w)).pyHash (show (tupleKind (mixKind prog w)).room A from hu) hkey ?_)
  refine addH_ok (s:={ s with toks:=s.toks+(tupleKind (mixKind prog w)).draws k }) sk_tuple (show (tupleKind (mixKind prog w)).room A from hu) hS his hkey hl (fun hk=>?_) (fun hk h' hsb hS'=>?_)
  · have e:addK xs (k,b)=xs:=by unfold addK;rw [if_pos hk]
    exact h false s.heap _ ⟨rfl,fun _ _=>rfl⟩ (by rw [e];exact hS)
  · have e:addK xs (k,b)=xs++[(k,b)]:=by unfold addK;rw [if_neg hk]
    exact h true h' _ hsb (by rw [e];exact hS')
theorem upd_loop (hh:A.in1.handled=none) (hu:A.in1.units<cLine) {h0:Heap} {N d it l:Nat} (hdi:d≠it) (hN1:N≤d) (hN2:N≤it) {items:Array Value} (hl:h0.IsList l items) (hlN:l<N) {ks:List (List Key×Addr)} (hit:items.toList=ks.map fun x=>Value.ref x.2)
    (hks:∀ x∈ks,x.2<N∧(tupleKind (mixKind prog w)).is h0 x.1 x.2) (hlen:ks.length≤4900) :
    ∀ (rest pre:List (List Key×Addr)) (s:Shared) (xs:List (List Key×Addr)),ks=pre++rest→(∀ b o,b<N→h0.get? b=some o→s.heap.get? b=some o)→s.heap.IsListIter it l pre.length→SetAt (tupleKind (mixKind prog w)) d xs s.heap→(∀ x∈xs,x∈ks)→xs.length≤pre.length→
      (∀ h' tk,(∀ b o,b<N→h0.get? b=some o→h'.get? b=some o)→SetAt (tupleKind (mixKind prog w)) d (rest.foldl addK xs) h'→R (.ok (.ret .none)) { s with heap:=h',toks:=tk })→
      codeAny (model prog w) A (.builtin "set.update.loop" ⟨[.ref d,.ref it],[]⟩) R s
  | [],pre,s,xs,hk,hold,hi,hS,hx,hxl,hR=>by
    refine codeAny_builtin PyProof.Rows.F.entry_set_update_loop ?_
    rw [Around.under_plainId PyProof.Rows.F.plain_set_update_loop _]
    have hl':s.heap.IsList l items:=by obtain ⟨o,ho,r⟩:=hl;exact ⟨o,hold l o hlN ho,r⟩
    show wpAny _ A.in1 (pyNext (.ref it) >>= _) _ _ s
    refine wpAny_bind (wpAny_pyNext_list_end hh hi hl' (by
      rw [← Array.getElem?_toList,hit,hk]
      simp) fun h' hb=>?_)
    show wpAny _ A.in1 (ret Value.none) _ _ _
    refine wpAny_pure (hR h' s.toks (fun b o hbN e=>hb b o (Nat.ne_of_lt (Nat.lt_of_lt_of_le hbN hN2)) (hold b o hbN e)) (hS.keep fun o e=>hb d o hdi e))
  | x::rest,pre,s,xs,hk,hold,hi,hS,hx,hxl,hR=>by
    refine codeAny_builtin PyProof.Rows.F.entry_set_update_loop ?_
    rw [Around.under_plainId PyProof.Rows.F.plain_set_update_loop _]
    have hl':s.heap.IsList l items:=by obtain ⟨o,ho,r⟩:=hl;exact ⟨o,hold l o hlN ho,r⟩
    have hxm:x∈ks:=by rw [hk];simp
    obtain ⟨xN,xk⟩:=hks x hxm
    have hlk:pre.length+1≤ks.length:=by rw [hk];simp
    show wpAny _ A.in1 (pyNext (.ref it) >>= _) _ _ s
    refine wpAny_bind (wpAny_pyNext_list_item hi hl' (x:=.ref x.2) (by
      rw [← Array.getElem?_toList,hit,hk]
      simp) fun h1 hi1 hsb1=>?_)
    have hold1:∀ b o,b<N→h0.get? b=some o→h1.get? b=some o:=fun b o hbN e=>by
      rw [hsb1.2 b (Nat.ne_of_lt (Nat.lt_of_lt_of_le hbN hN2))];exact hold b o hbN e
    have hS1:SetAt (tupleKind (mixKind prog w)) d xs h1:=hS.keep fun o e=>by rw [hsb1.2 d hdi];exact e
    show wpAny _ A.in1 (holding [Value.ref x.2] (setAdd d (.ref x.2)) >>= _) _ _ { s with heap:=h1 }
    refine wpAny_bind (wpAny_holding (setAdd_ok (s:={ s with heap:=h1 }) hu hS1 (fun y hy=>?_) (k:=x.1) (key_keep xk fun o e=>hold1 _ o xN e) (by omega) fun r h2 tk hsb2 hS2=>?_))
    · obtain ⟨yN,yk⟩:=hks y (hx y hy)
      exact key_keep yk fun o e=>hold1 _ o yN e
    · refine wpAny_pure ⟨plainId_quiet PyProof.Rows.F.plain_set_update_loop _,?_⟩
      have hold2:∀ b o,b<N→h0.get? b=some o→h2.get? b=some o:=fun b o hbN e=>by
        rw [hsb2.2 b (Nat.ne_of_lt (Nat.lt_of_lt_of_le hbN hN1))];exact hold1 b o hbN e
      have hi2:h2.IsListIter it l (pre++[x]).length:=by
        rw [List.length_append,List.length_singleton]
        obtain ⟨o,ho,r⟩:=hi1
        exact ⟨o,by rw [hsb2.2 it (Ne.symm hdi)];exact ho,r⟩
      have:=addK_len xs x
      exact upd_loop hh hu hdi hN1 hN2 hl hlN hit hks hlen rest (pre++[x]) { s with heap:=h2,toks:=tk } (addK xs x) (by rw [hk];simp) hold2 hi2 hS2 (fun y hy=>by
        rcases addK_mem hy with h | h
        · exact hx y h
        · exact h▸hxm) (by rw [List.length_append,List.length_singleton];omega) hR
theorem fresh_at (led:Bool) {h:Heap} {a:Addr} (e:h.get? a=some { cls:=.type "set",dict:=none,data:=.set #[] 0 (.fresh 0 0 led) }):SetAt (tupleKind (mixKind prog w)) a [] h:=by
  refine ⟨_,#[],0,_,e,⟨rfl,rfl,rfl⟩,rfl,⟨by simp,⟨rfl,⟨3,rfl⟩,by simp [SetTable.fresh],fun x hx=>?_,rfl,by simp [SetTable.fresh],fun q hq=>?_⟩,by simp [SetTable.fresh,masks],by simp [SetTable.fresh]⟩,List.nodup_nil⟩
  · simp [SetTable.fresh] at hx
  · simp [SetTable.fresh] at hq
theorem call_set_tups {l:Addr} {items:Array Value} {ks:List (List Key×Addr)} {Q:Value→Shared→Prop} (hh:A.handled=none) (hu:A.units+4<cLine) (hl:s.heap.IsList l items) (hit:items.toList=ks.map fun x=>Value.ref x.2)
    (hks:∀ x∈ks,(tupleKind (mixKind prog w)).is s.heap x.1 x.2) (hlen:ks.length≤4900)
    (h:∀ (h':Heap) (tk:Nat),SetAt (tupleKind (mixKind prog w)) s.heap.objs.size (ks.foldl addK []) h'→(∀ b o,b<s.heap.objs.size→s.heap.get? b=some o→h'.get? b=some o)→Q (.ref s.heap.objs.size) { s with heap:=h',toks:=tk }) :
    wpAny (model prog w) A (call (.type "set") [.ref l]) Q E s:=by
  obtain ⟨c,tl,hmro⟩:=F.called_set.mro
  have hmade:=F.called_set.made
  have hsub:=F.called_set.sub
  refine wpAny_call (codeAny_of_tree ?_)
  show wpAny _ _ (callAny (.type "set") _) _ _ _
  refine wpAny_pure ⟨Code.quiet_builtin _ (by decide +kernel),codeAny_builtin F.entry_type_call ?_⟩
  rw [Around.under_plain (weight_type_call_type "set" [.ref l] []) rfl]
  have h1:=F.called_set.notType
  have h2:=F.called_set.canCreate
  have hct:=F.typeCall_set_1 (.ref l)
  repeat (any_goals (first | assumption | wp_step))
  refine codeAny_mono (code_set_new_1 (.ref l) (E:=E) (Q₁:=fun obj s₁=>∃ led:Bool,obj=.ref s.heap.objs.size∧s₁={ s with heap:=s.heap.push { cls:=.type "set",dict:=none,data:=.set #[] 0 (.fresh 0 0 led) } }) fun led=>⟨led,rfl,rfl⟩) fun r s₁ hr=>?_
  cases r with
  | error e=>exact hr
  | ok fl=>
    cases fl with
    | ret obj=>
      obtain ⟨led,rfl,rfl⟩:=hr
      have hS:(s.heap.push { cls:=.type "set",dict:=none,data:=.set #[] 0 (.fresh 0 0 led) }).get? s.heap.objs.size=some { cls:=.type "set",dict:=none,data:=.set #[] 0 (.fresh 0 0 led) }:=Heap.get?_push_size _ rfl
      have hT:Shared.TypeIs { s with heap:=s.heap.push { cls:=.type "set",dict:=none,data:=.set #[] 0 (.fresh 0 0 led) } } (.ref s.heap.objs.size) "set":=⟨_,hS,rfl⟩
      have hli:=F.called_set.init.lookup
      have hbi:=F.called_set.init.bind (.ref s.heap.objs.size)
      repeat (any_goals (first | assumption | wp_step))
      refine codeAny_mono (codeAny_call_builtin (R:=wants (fun r s₂=>r=.none∧∃ h' tk,s₂={ s with heap:=h',toks:=tk }∧
          SetAt (tupleKind (mixKind prog w)) s.heap.objs.size (ks.foldl addK []) h'∧
          (∀ b o,b<s.heap.objs.size→s.heap.get? b=some o→h'.get? b=some o)) E) F.called_set.init.plain F.entry_set_init (check_set_init_1 hT ?_)) fun r₂ s₂ hr₂=>?_
      · obtain ⟨ol,hol,hcl,nl,hdl⟩:=id hl
        obtain ⟨ocls,odict,odata,oslots⟩:=ol
        simp only at hcl hdl
        subst hcl;subst hdl
        have hol':(s.heap.push { cls:=.type "set",dict:=none,data:=.set #[] 0 (.fresh 0 0 led) }).get? l=some { cls:=.type "list",dict:=odict,data:=.seq items nl,slots:=oslots }:=Heap.get?_push_of_some _ hol
        have hsls:=F.sub_list_set
        have hslf:=F.sub_list_frozenset
        have hne:(Value.type "list"==Value.type "dict")=false:=by decide
        have hl1:(s.heap.push { cls:=.type "set",dict:=none,data:=.set #[] 0 (.fresh 0 0 led) }).IsList l items:=⟨_,hol',rfl,nl,rfl⟩
        unfold Builtin.«set.__init__» noKeywords Builtin.Frozenset.updateFrom
        generalize hPI:pyIter=PI
        wp_walk
        subst hPI
        refine wpAny_pyIter_list hl1 ?_
        refine wpAny_bind (wpAny_runValue ?_)
        have hlS:l<s.heap.objs.size:=Heap.lt_size hol
        have hsz:(s.heap.push { cls:=.type "set",dict:=none,data:=.set #[] 0 (.fresh 0 0 led) }).objs.size=s.heap.objs.size+1:=Heap.size_push _ _
        refine upd_loop (h0:=s.heap) (N:=s.heap.objs.size) (ks:=ks) (items:=items) (by simp [hh]) ?hu1 (by rw [hsz];exact Nat.ne_of_lt (Nat.lt_succ_self _)) (Nat.le_refl _) (by rw [hsz];exact Nat.le_succ _) hl hlS hit (fun x hx=>⟨?_,hks x hx⟩) hlen ks [] _ [] rfl (fun b o _ e=>Heap.get?_push_of_some _ (Heap.get?_push_of_some _ e)) ⟨_,Heap.get?_push_size _ rfl,rfl,rfl⟩ (fresh_at led (Heap.get?_push_of_some _ hS)) (fun x hx=>by cases hx) (Nat.le_refl _) fun h' tk hold hS'=>?_
        case hu1=>simp only [Around.in1];first | omega | (simp [Around.in1];omega)
        · obtain ⟨o,_,_,ho,_⟩:=hks x hx
          exact Heap.lt_size ho
        · show wpAny _ _ _ _ _ _
          refine wpAny_pure ?_
          show wpAny _ _ (ret Value.none) _ _ _
          exact wpAny_pure ⟨rfl,h',tk,rfl,hS',hold⟩
      · cases r₂ with
        | error e=>exact hr₂
        | ok fl₂=>
          cases fl₂ with
          | ret r=>
            obtain ⟨rfl,h',tk,rfl,hS',hk'⟩:=hr₂
            repeat (any_goals (first | assumption | wp_step))
            exact h _ _ hS' hk'
          | _=>exact hr₂.elim
    | _=>exact hr.elim
end
end St
namespace St
open PySem L2
theorem entry_dict_update_loop:entryFor table "dict.update.loop"=some Builtin.«dict.update.loop»:=entryFor_of_tree (by kernel_rfl)
theorem plain_dict_update_loop:plainId "dict.update.loop"=true:=by decide +kernel
theorem list_no_keys:typeLookup (.type "list") "keys"=pure none:=by rw [typeLookup_type,builtinLookup_eq_fast];kernel_rfl
section
variable {prog:Program} {w:World} {A:Around} {E:Value→Shared→Prop} {s:Shared} {R:Result→Shared→Prop}
theorem getAttrQ_list {a:Addr} {o:Obj} {xs:Array Value} {k:Nat} {Q:Option Value→Shared→Prop} (hx:s.heap.get? a=some o) (hc:o.cls=.type "list") (hdat:o.data=.seq xs k) (hd:o.dict=none) (hA:A.handled=none)
    (h:∀ h' tk,(∀ b u,s.heap.get? b=some u→h'.get? b=some u)→Q none { s with heap:=h',toks:=tk }):wpAny (model prog w) A (getAttr? (.ref a) "keys") Q E s:=by
  obtain ⟨c,dct,dat,sl⟩:=o
  simp only at hc hdat hd
  subst hc hdat hd
  obtain ⟨hp,g,d,tk,os⟩:=s
  have hT:∀ tk',(⟨hp,g,d,tk',os⟩:Shared).TypeIs (.ref a) "list":=fun _=>⟨_,hx,rfl⟩
  have f1:=sub_AttributeError
  have f3:=F.slot_list_getattribute.lookup
  have f4:=F.slot_list_getattribute.bind (.ref a)
  have f5:=am_list_getattr_none
  unfold getAttr? getAttrBy? getAttrBy
  repeat (any_goals (first | assumption | exact hT _ | ((with_reducible show wpAny _ _ (call (Value.builtin "list.__getattribute__") _ _) _ _ _);refine call_meets F.slot_list_getattribute (hT _) am_entry_list_getattribute (F.args_list_getattribute_2 _ _) (meets_getattribute_miss_list a xs k sl "keys" _ list_no_keys (by decide) (by size_fits)) ⟨hx,hA,fun h' tk' e hx'=>?_⟩) | wp_step))
  obtain ⟨t',u',he⟩:=hx'.there
  show wpAny _ _ (getattributeRaised _ _ _ _ _ _ _) _ _ _
  unfold getattributeRaised
  repeat (any_goals (first | assumption | wp_step))
  exact h _ _ hx'.keeps
section
variable {K:Type} [DecidableEq K] {knd:HeapKind prog w K}
def stT (xs:List (K×Addr×Value)) (x:K×Addr):List (K×Addr×Value):=storedH xs x.1 x.2 (.bool true)
theorem stT_len (xs:List (K×Addr×Value)) (x:K×Addr):(stT xs x).length≤xs.length+1:=by
  unfold stT storedH;split<;>simp
theorem stT_mem {xs:List (K×Addr×Value)} {x:K×Addr} {y:K×Addr×Value} (h:y∈stT xs x):(∃ z∈xs,y.1=z.1∧y.2.1=z.2.1)∨(y.1=x.1∧y.2.1=x.2):=by
  unfold stT storedH at h
  split at h
  · obtain ⟨z,hz,rfl⟩:=List.mem_map.mp h
    refine .inl ⟨z,hz,?_⟩
    unfold putAt
    split<;>exact ⟨rfl,rfl⟩
  · rcases List.mem_append.mp h with h | h
    · exact .inl ⟨y,h,rfl,rfl⟩
    · cases List.mem_singleton.mp h;exact .inr ⟨rfl,rfl⟩
def DOb (knd:HeapKind prog w K) (d:Addr) (xs:List (K×Addr×Value)) (h:Heap):Prop:=
  ∃ o es ep,h.get? d=some o∧o.ExactDict∧o.data=.dict es ep∧es.toList=xs.map (entryOfKey knd)∧(xs.map (·.1)).Nodup
theorem DOb.dict {d:Addr} {xs:List (K×Addr×Value)} {h:Heap} (x:DOb knd d xs h) (k:∀ y∈xs,knd.is h y.1 y.2.1):h.DictOfH knd d xs:=by
  obtain ⟨o,es,ep,e1,e2,e3,e4,e5⟩:=x
  exact ⟨o,es,ep,e1,e2,e3,e4,k,e5⟩
theorem DOb.of {d:Addr} {xs:List (K×Addr×Value)} {h:Heap} (x:h.DictOfH knd d xs):DOb knd d xs h:=by
  obtain ⟨o,es,ep,e1,e2,e3,e4,_,e5⟩:=x
  exact ⟨o,es,ep,e1,e2,e3,e4,e5⟩
theorem DOb.keep {d:Addr} {xs:List (K×Addr×Value)} {h h':Heap} (x:DOb knd d xs h) (k:∀ o,h.get? d=some o→h'.get? d=some o):DOb knd d xs h':=by
  obtain ⟨o,es,ep,e1,r⟩:=x
  exact ⟨o,es,ep,k o e1,r⟩
theorem dic_loop (hh:A.in1.handled=none) (hu:knd.room A.in1) {h0:Heap} {N d it l:Nat} (kp:∀ h' k b,knd.is h0 k b→(∀ c o,c<N→h0.get? c=some o→h'.get? c=some o)→knd.is h' k b) (hdi:d≠it) (hN1:N≤d) (hN2:N≤it) {items:Array Value} (hl:h0.IsList l items) (hlN:l<N)
    {ks:List (K×Addr)} {cs:List Addr} (hcl:cs.length=ks.length) (hit:items.toList=cs.map Value.ref) (hks:∀ x∈ks,knd.is h0 x.1 x.2) (hcs:∀ (i:Nat) x c,ks[i]?=some x→cs[i]?=some c→c<N∧∃ o n,h0.get? c=some o∧o.cls=.type "tuple"∧o.data=.seq #[.ref x.2,.bool true] n) (hlen:ks.length≤1000000) :
    ∀ (rest pre:List (K×Addr)) (s:Shared) (t:Tok) (xs:List (K×Addr×Value)),ks=pre++rest→(∀ b o,b<N→h0.get? b=some o→s.heap.get? b=some o)→s.heap.IsListIter it l pre.length→DOb knd d xs s.heap→(∀ y∈xs,knd.is h0 y.1 y.2.1)→xs.length≤pre.length→
      (∀ h' tk,(∀ b o,b<N→h0.get? b=some o→h'.get? b=some o)→DOb knd d (rest.foldl stT xs) h'→R (.ok (.ret .none)) { s with heap:=h',toks:=tk })→
      codeAny (model prog w) A (.builtin "dict.update.loop" ⟨[.ref d,.ref it,.int pre.length t,.none],[]⟩) R s
  | [],pre,s,t,xs,hk,hold,hi,hS,hx,hxl,hR=>by
    refine codeAny_builtin entry_dict_update_loop ?_
    rw [Around.under_plainId plain_dict_update_loop _]
    have hl':s.heap.IsList l items:=by obtain ⟨o,ho,r⟩:=hl;exact ⟨o,hold l o hlN ho,r⟩
    show wpAny _ A.in1 (pyNext (.ref it) >>= _) _ _ s
    refine wpAny_bind (wpAny_pyNext_list_end hh hi hl' (by
      rw [← Array.getElem?_toList,hit,List.getElem?_map,List.getElem?_eq_none (by rw [hcl,hk];simp)];rfl) fun h' hb=>?_)
    show wpAny _ A.in1 (Builtin.Dict.addKeywords d [] >>= fun _=>ret Value.none) _ _ _
    refine wpAny_bind (wpAny_pure ?_)
    exact wpAny_pure (hR h' s.toks (fun b o hbN e=>hb b o (Nat.ne_of_lt (Nat.lt_of_lt_of_le hbN hN2)) (hold b o hbN e)) (hS.keep fun o e=>hb d o hdi e))
  | x::rest,pre,s,t,xs,hk,hold,hi,hS,hx,hxl,hR=>by
    refine codeAny_builtin entry_dict_update_loop ?_
    rw [Around.under_plainId plain_dict_update_loop _]
    have hl':s.heap.IsList l items:=by obtain ⟨o,ho,r⟩:=hl;exact ⟨o,hold l o hlN ho,r⟩
    have hxm:x∈ks:=by rw [hk];simp
    have hxi:ks[pre.length]?=some x:=by rw [hk];simp
    have hlk:pre.length+1≤ks.length:=by rw [hk];simp
    obtain ⟨c,hc⟩:∃ c,cs[pre.length]?=some c:=⟨_,List.getElem?_eq_getElem (by omega)⟩
    obtain ⟨cN,oc,nc,c1,c2,c3⟩:=hcs _ x c hxi hc
    show wpAny _ A.in1 (pyNext (.ref it) >>= _) _ _ s
    refine wpAny_bind (wpAny_pyNext_list_item hi hl' (x:=.ref c) (by
      rw [← Array.getElem?_toList,hit,List.getElem?_map,hc];rfl) fun h1 hi1 hsb1=>?_)
    have hold1:∀ b o,b<N→h0.get? b=some o→h1.get? b=some o:=fun b o hbN e=>by
      rw [hsb1.2 b (Nat.ne_of_lt (Nat.lt_of_lt_of_le hbN hN2))];exact hold b o hbN e
    have hS1:DOb knd d xs h1:=hS.keep fun o e=>by rw [hsb1.2 d hdi];exact e
    have hc1:=hold1 c oc cN c1
    dsimp only
    refine wpAny_bind (wpAny_holding ?_)
    refine wpAny_bind (wpAny_tryCatch ?_)
    unfold Builtin.Dict.pairItems
    refine wpAny_bind (wpAny_typeOf (T:="tuple") ⟨oc,hc1,c2⟩ ?_)
    rw [if_pos (by decide)]
    refine wpAny_bind (wpAny_seqItems hc1 c3 ?_)
    refine wpAny_pure ?_
    dsimp only [Option.getD]
    refine wpAny_holding ?_
    refine wpAny_dictSet_heap (s:={ s with heap:=h1 }) (k:=x.1) hu (kp h1 _ _ (hks x hxm) hold1) (hS1.dict fun y hy=>kp h1 _ _ (hx y hy) hold1) (fun h2 hS2 hsb2=>?_) (by rw [sizeLine_eq];omega)
    have hold2:∀ b o,b<N→h0.get? b=some o→h2.get? b=some o:=fun b o hbN e=>by
      rw [hsb2.2 b (Nat.ne_of_lt (Nat.lt_of_lt_of_le hbN hN1))];exact hold1 b o hbN e
    have hi2:h2.IsListIter it l (pre++[x]).length:=by
      rw [List.length_append,List.length_singleton]
      obtain ⟨o,ho,r⟩:=hi1
      exact ⟨o,by rw [hsb2.2 it (Ne.symm hdi)];exact ho,r⟩
    have hln:=stT_len xs x
    refine wpAny_pure ⟨plainId_quiet plain_dict_update_loop _,?_⟩
    have hpl:(((pre++[x]).length:Nat):Int)=(pre.length:Int)+1:=by rw [List.length_append,List.length_singleton];omega
    have key:=dic_loop hh hu kp hdi hN1 hN2 hl hlN hcl hit hks hcs hlen rest (pre++[x]) { s with heap:=h2,toks:=s.toks+knd.draws x.1 } 0 (stT xs x) (by rw [hk];simp) hold2 hi2 (DOb.of hS2) (fun y hy=>by
      rcases stT_mem hy with ⟨z,hz,e1,e2⟩ | ⟨e1,e2⟩
      · rw [e1,e2];exact hx z hz
      · rw [e1,e2];exact hks x hxm) (by rw [List.length_append,List.length_singleton];omega) hR
    rw [hpl] at key
    exact key
theorem call_dict_pairs {l:Addr} {items:Array Value} {ks:List (K×Addr)} {cs:List Addr} {ol:Obj} {nl:Nat} {Q:Value→Shared→Prop} (hh:A.handled=none) (hu:∀ B:Around,B.units≤A.units+4→knd.room B) (kp:∀ h' k b,knd.is s.heap k b→(∀ c o,c<s.heap.objs.size→s.heap.get? c=some o→h'.get? c=some o)→knd.is h' k b)
    (hol:s.heap.get? l=some ol) (hlc:ol.cls=.type "list") (hld:ol.dict=none) (hdl:ol.data=.seq items nl) (hcl:cs.length=ks.length) (hit:items.toList=cs.map Value.ref) (hks:∀ x∈ks,knd.is s.heap x.1 x.2) (hcs:∀ (i:Nat) x c,ks[i]?=some x→cs[i]?=some c→∃ o n,s.heap.get? c=some o∧o.cls=.type "tuple"∧o.data=.seq #[.ref x.2,.bool true] n) (hlen:ks.length≤1000000)
    (h:∀ (h':Heap) (tk:Nat),DOb knd s.heap.objs.size (ks.foldl stT []) h'→(∀ b o,b<s.heap.objs.size→s.heap.get? b=some o→h'.get? b=some o)→Q (.ref s.heap.objs.size) { s with heap:=h',toks:=tk }) :
    wpAny (model prog w) A (call (.type "dict") [.ref l]) Q E s:=by
  refine callType_codes (Q₁:=fun obj s₁=>obj=.ref s.heap.objs.size∧s₁={ s with heap:=s.heap.push { cls:=.type "dict",data:=.dict #[] } }) F.kt_called_dict (F.kt_typeCall_dict_1 _) F.entry_dict_init (kt_code_dict_new _ ⟨rfl,rfl⟩) ?_
  rintro obj s₁ ⟨rfl,rfl⟩
  have hnew:(s.heap.push { cls:=.type "dict",data:=.dict #[] }).DictOfH knd s.heap.objs.size []:=Heap.DictOfH.new s.heap
  have hol':(s.heap.push { cls:=.type "dict",data:=.dict #[] }).get? l=some ol:=Heap.get?_push_of_some _ hol
  refine ⟨hnew.typeIs,F.args_dict_init_2 _ _,?_⟩
  unfold Builtin.«dict.__init__»
  refine wpAny_bind ?_
  unfold Builtin.Dict.selfAndRest
  refine wpAny_bind (wpAny_notOrdered_dict hnew.typeIs ?_)
  show wpAny _ _ (pure (s.heap.objs.size,[Value.ref l])) _ _ _
  refine wpAny_pure ?_
  show wpAny _ _ (Builtin.Dict.updateFrom "dict.__init__" s.heap.objs.size (.ref l) [] .none) _ _ _
  unfold Builtin.Dict.updateFrom
  refine wpAny_bind (wpAny_typeOf (T:="list") ⟨ol,hol',hlc⟩ ?_)
  rw [if_pos (by decide)]
  refine wpAny_bind (getAttrQ_list (s:={ s with heap:=s.heap.push { cls:=.type "dict",data:=.dict #[] } }) hol' hlc hdl hld (by simp [hh]) fun h1 tk1 keep1=>?_)
  rw [if_pos (by rfl)]
  refine wpAny_bind (wpAny_rule ?_)
  have hl1:h1.IsList l items:=⟨ol,keep1 _ _ hol',hlc,nl,hdl⟩
  have hd1:h1.get? s.heap.objs.size=some { cls:=.type "dict",data:=.dict #[] }:=keep1 _ _ (Heap.get?_push_size _ rfl)
  refine wpAny_bind (wpAny_pyIter_list hl1 ?_)
  have hlN:=Heap.lt_size hol
  have hsz:s.heap.objs.size<h1.objs.size:=Heap.lt_size hd1
  refine wpAny_pure ⟨plainId_quiet plain_dict_update_loop _,?_⟩
  refine dic_loop (h0:=s.heap) (N:=s.heap.objs.size) (knd:=knd) (ks:=ks) (cs:=cs) (items:=items) (by simp [hh]) (hu _ ?hu1) kp (Nat.ne_of_lt hsz) (Nat.le_refl _) (Nat.le_of_lt hsz) ⟨ol,hol,hlc,nl,hdl⟩ hlN hcl hit hks (fun i x c e1 e2=>?_) hlen ks [] _ 0 [] rfl (fun b o _ e=>Heap.get?_push_of_some _ (keep1 _ _ (Heap.get?_push_of_some _ e))) ⟨_,Heap.get?_push_size _ rfl,rfl,rfl⟩ ?hob (fun y hy=>by cases hy) (Nat.le_refl _) fun h' tk hold hS'=>?_
  case hu1=>simp only [Around.in1];first | omega | (simp [Around.in1];omega)
  case hob=>exact ⟨_,#[],0,Heap.get?_push_of_some _ hd1,⟨rfl,rfl,rfl⟩,rfl,rfl,List.nodup_nil⟩
  · obtain ⟨o,n,g1,g2,g3⟩:=hcs i x c e1 e2
    exact ⟨Heap.lt_size g1,o,n,g1,g2,g3⟩
  · exact ⟨rfl,h h' tk hS' hold⟩
end
end
end St
namespace Mi
open PySem PySem.Spec PyProof.Rows L2
inductive D where
  | non | bl (b:Bool) | int (i:Int) | str (x:Str) | tup (ds:List D) | lst (ds:List D) | dct (ks:List (Int×Int))
    | st (ps:List (Int×Int)) | ln (n:Nat)
  deriving Inhabited
def kk (p:Int×Int):List Key:=[.inl p.1,.inl p.2]
abbrev Fg:=PySem.W.Frag
def entI (x:(Int×Int)×Addr):Int×Value:=(reduceHash (Builtin.Tuple.tupleHashOf [hashInt x.1.1,hashInt x.1.2]),.ref x.2)
def SetP (a:Addr) (ps:List (Int×Int)) (bs:List Addr) (h:Heap):Prop:=
  ∃ o es ep t,h.get? a=some o∧o.ExactSet∧o.data=.set es ep t∧es.toList.Perm ((ps.zip bs).map entI)∧St.Ok t (es.toList.map (·.1))∧t.mask∈St.masks∧t.place.size*5<t.mask*3∧ps.Nodup
def entD (x:(Int×Int)×Addr):DictEntry:=⟨reduceHash (Builtin.Tuple.tupleHashOf [hashInt x.1.1,hashInt x.1.2]),.ref x.2,.bool true⟩
def DicP (a:Addr) (ps:List (Int×Int)) (bs:List Addr) (h:Heap):Prop:=
  ∃ o es ep,h.get? a=some o∧o.ExactDict∧o.data=.dict es ep∧es.toList=(ps.zip bs).map entD∧ps.Nodup∧(a==sysModules)=false∧ps.length≤16000000
def PrAt (K:Fg) (H:Hp) (ps:List (Int×Int)) (bs:List Addr):Prop:=bs.length=ps.length∧∀ (i:Nat) p b,ps[i]?=some p→bs[i]?=some b→SqT K H b [.int p.1,.int p.2]
def DcAt (K:Fg) (Z H:Hp) (a:Addr) (ks:List (Int×Int)):Prop:=∃ bs,H a=some (.ext (DicP a ks bs))∧PrAt K Z ks bs
def LenP (a:Addr) (n:Nat) (h:Heap):Prop:=∃ o es ep,h.get? a=some o∧o.ExactDict∧o.data=.dict es ep∧es.size=n∧(a==sysModules)=false
mutual
def Rep (K:Fg) (H:Hp):D→V→Prop
  | .non,v=>v=.non
  | .bl b,v=>v=.bl b
  | .int i,v=>v=.int i
  | .str x,v=>v=.str x∧PyData.strOk x=true
  | .tup ds,v=>∃ a vs,v=.ref a∧SqT K H a vs∧Reps K H ds vs
  | .lst ds,v=>∃ a vs,v=.ref a∧SqL K H a vs∧Reps K H ds vs
  | .dct ks,v=>∃ a,v=.ref a∧DcAt K H H a ks
  | .st ps,v=>∃ a bs,v=.ref a∧bs.length=ps.length∧H a=some (.ext (SetP a ps bs))∧∀ (i:Nat) p b,ps[i]?=some p→bs[i]?=some b→SqT K H b [.int p.1,.int p.2]
  | .ln n,v=>∃ a,v=.ref a∧H a=some (.ext (LenP a n))
def Reps (K:Fg) (H:Hp):List D→List V→Prop
  | [],vs=>vs=[]
  | d::ds,vs=>∃ v r,vs=v::r∧Rep K H d v∧Reps K H ds r
end
theorem sameT {K:Fg} {H H':Hp} {a:Addr} {xs:List V} (e:Same H H') (h:SqT K H a xs):SqT K H' a xs:=by
  rcases h with (h | ⟨o,h⟩) | h
  · exact .inl (.inl (e _ _ h))
  · exact .inl (.inr ⟨o,e _ _ h⟩)
  · exact .inr h
theorem PrAt.mono {K:Fg} {H H':Hp} (s:Same H H') {ps:List (Int×Int)} {bs:List Addr} (h:PrAt K H ps bs):PrAt K H' ps bs:=⟨h.1,fun i p b h1 h2=>sameT s (h.2 i p b h1 h2)⟩
theorem DcAt.mono {K:Fg} {Z Z' H H':Hp} (z:Same Z Z') (s:Same H H') {a:Addr} {ks:List (Int×Int)} (h:DcAt K Z H a ks):DcAt K Z' H' a ks:=let ⟨bs,e,r⟩:=h;⟨bs,s _ _ e,r.mono z⟩
mutual
theorem Rep.mono {K:Fg} {H H':Hp} (s:Same H H'):∀ (d:D) {v:V},Rep K H d v→Rep K H' d v
  | .non,_,h=>h
  | .bl _,_,h=>h
  | .int _,_,h=>h
  | .str _,_,h=>h
  | .tup ds,_,⟨a,vs,e,q,r⟩=>⟨a,vs,e,sameT s q,Reps.mono s ds r⟩
  | .lst ds,_,⟨a,vs,e,q,r⟩=>⟨a,vs,e,s.seq q,Reps.mono s ds r⟩
  | .dct ks,_,⟨a,e,q⟩=>⟨a,e,q.mono s s⟩
  | .st ps,_,⟨a,bs,e,l,q,r⟩=>⟨a,bs,e,l,s _ _ q,fun i p b h1 h2=>sameT s (r i p b h1 h2)⟩
  | .ln n,_,⟨a,e,q⟩=>⟨a,e,s _ _ q⟩
theorem Reps.mono {K:Fg} {H H':Hp} (s:Same H H'):∀ (ds:List D) {vs:List V},Reps K H ds vs→Reps K H' ds vs
  | [],_,h=>h
  | d::ds,_,⟨v,r,e,h,q⟩=>⟨v,r,e,Rep.mono s d h,Reps.mono s ds q⟩
end
theorem Reps.len {K:Fg} {H:Hp}:∀ {ds:List D} {vs:List V},Reps K H ds vs→ds.length=vs.length
  | [],_,h=>by cases (show _=[] from h);rfl
  | d::ds,_,⟨v,r,e,_,q⟩=>by subst e;simp [Reps.len q]
theorem Reps.get {K:Fg} {H:Hp}:∀ {ds:List D} {vs:List V} {i:Nat} {d:D},Reps K H ds vs→ds[i]?=some d→∃ v,vs[i]?=some v∧Rep K H d v
  | [],_,_,_,_,e=>by simp at e
  | d::ds,_,0,_,⟨v,r,e,h,q⟩,e2=>by subst e;simp at e2;subst e2;exact ⟨v,rfl,h⟩
  | d::ds,_,i+1,_,⟨v,r,e,h,q⟩,e2=>by subst e;simpa using Reps.get (i:=i) q (by simpa using e2)
theorem Reps.getV {K:Fg} {H:Hp} {ds:List D} {vs:List V} {i:Nat} {v:V} (h:Reps K H ds vs) (e:vs[i]?=some v):∃ d,ds[i]?=some d∧Rep K H d v:=by
  have hl:=h.len
  have hi:i<vs.length:=(List.getElem?_eq_some_iff.mp e).1
  have hd:ds[i]?=some (ds[i]'(by omega)):=by simp [hl,hi]
  obtain ⟨w,e2,r⟩:=h.get hd
  rw [e] at e2;cases e2
  exact ⟨_,hd,r⟩
theorem Reps.app {K:Fg} {H:Hp}:∀ {ds es:List D} {vs us:List V},Reps K H ds vs→Reps K H es us→Reps K H (ds++es) (vs++us)
  | [],_,_,_,h,q=>by cases (show _=[] from h);exact q
  | d::ds,_,_,_,⟨v,r,e,h,q⟩,q2=>by subst e;exact ⟨v,_,rfl,h,Reps.app q q2⟩
theorem Reps.one {K:Fg} {H:Hp} {d:D} {v:V} (h:Rep K H d v):Reps K H [d] [v]:=⟨v,[],rfl,h,rfl⟩
theorem Reps.cons {K:Fg} {H:Hp} {d:D} {v:V} {ds:List D} {vs:List V} (h:Rep K H d v) (r:Reps K H ds vs):Reps K H (d::ds) (v::vs):=⟨v,vs,rfl,h,r⟩
theorem Reps.drop {K:Fg} {H:Hp}:∀ {ds:List D} {vs:List V} (n:Nat),Reps K H ds vs→Reps K H (ds.drop n) (vs.drop n)
  | _,_,0,q=>q
  | [],_,_+1,q=>by cases (show _=[] from q);rfl
  | _::_,_,n+1,⟨w,r,e,z,q⟩=>by subst e;exact Reps.drop n q
theorem Reps.take {K:Fg} {H:Hp}:∀ {ds:List D} {vs:List V} (n:Nat),Reps K H ds vs→Reps K H (ds.take n) (vs.take n)
  | _,_,0,q=>rfl
  | [],_,_+1,q=>by cases (show _=[] from q);rfl
  | _::_,_,n+1,⟨w,r,e,z,q⟩=>by subst e;exact ⟨w,_,rfl,z,Reps.take n q⟩
theorem Reps.ints {K:Fg} {H:Hp}:∀ (ns:List Int),Reps K H (ns.map D.int) (ns.map V.int)
  | []=>rfl
  | n::ns=>⟨_,_,rfl,rfl,Reps.ints ns⟩
structure Ex (Z H Z' H':Hp):Prop where
  h:Same H H'
  z:Same Z Z'
  zh:Same Z' H'
  fr:∀ a,H a≠none→Z a=none→Z' a=none
theorem Ex.refl {Z H:Hp} (s:Same Z H):Ex Z H Z H:=⟨Same.refl _,Same.refl _,s,fun _ _ h=>h⟩
theorem smSome {H H':Hp} (s:Same H H') {a:Addr} (h:H a≠none):H' a≠none:=by
  cases e:H a with
  | none=>exact absurd e h
  | some o=>rw [s a o e];simp
theorem Ex.trans {Z H Z1 H1 Z2 H2:Hp} (x:Ex Z H Z1 H1) (y:Ex Z1 H1 Z2 H2):Ex Z H Z2 H2:=
  ⟨x.h.trans y.h,x.z.trans y.z,y.zh,fun a h e=>y.fr a (smSome x.h h) (x.fr a h e)⟩
theorem Ex.transB {B Z Z1 H1 Z2 H2:Hp} (x:Ex Z B Z1 H1) (y:Ex Z1 B Z2 H2):Ex Z B Z2 H2:=
  ⟨y.h,x.z.trans y.z,y.zh,fun a h e=>y.fr a h (x.fr a h e)⟩
theorem Ex.part {B H Z Z' H':Hp} (b:Same B H) (x:Ex Z H Z' H'):Ex Z B Z' H':=⟨b.trans x.h,x.z,x.zh,fun a h e=>x.fr a (smSome b h) e⟩
theorem smUpd {H:Hp} {p:Addr} {o:HO} (h:H p=none):Same H (upd H p o):=fun b u e=>by rw [upd_ne (ne_of_none e h)];exact e
theorem smUpd2 {Z H:Hp} {p:Addr} {o:HO} (s:Same Z H) (h:H p=none):Same (upd Z p o) (upd H p o):=fun b u e=>by
  by_cases hb:b=p
  · subst hb;rw [upd_same] at e ⊢;exact e
  · rw [upd_ne hb] at e ⊢;exact s b u e
theorem smUpdR {Z H:Hp} {p:Addr} {o:HO} (s:Same Z H) (h:Z p=none):Same Z (upd H p o):=fun b u e=>by
  rw [upd_ne (ne_of_none e h)];exact s b u e
theorem smUpdL {Z H:Hp} {p:Addr} {o:HO} (s:Same Z H) (h:H p=some o):Same (upd Z p o) H:=fun b u e=>by
  by_cases hb:b=p
  · subst hb;rw [upd_same] at e;cases e;exact h
  · rw [upd_ne hb] at e;exact s b u e
theorem Ex.new {Z H:Hp} {p:Addr} {o:HO} (s:Same Z H) (h:H p=none):Ex Z H (upd Z p o) (upd H p o):=
  ⟨smUpd h,smUpd (s.free h),smUpd2 s h,fun a ha e=>by rw [upd_ne (fun z=>ha (by rw [z];exact h))];exact e⟩
theorem Ex.newL {Z H:Hp} {p:Addr} {o:HO} (s:Same Z H) (h:H p=none):Ex Z H Z (upd H p o):=
  ⟨smUpd h,Same.refl _,smUpdR s (s.free h),fun _ _ e=>e⟩
inductive Gr where | pk | cl | nw | nd | n2
def wo (Z:Hp) (b c:Addr):Hp:=fun a=>if a=b∨a=c then none else Z a
def Gd (K:Fg) (Z' H H':Hp):Gr→D→V→Prop
  | .pk,d,v=>Rep K Z' d v∨(∃ a vs ds,v=.ref a∧d=.lst ds∧H' a=some (.lst vs)∧Reps K Z' ds vs)∨∃ a ks,v=.ref a∧d=.dct ks∧DcAt K Z' H' a ks
  | .cl,d,v=>Rep K Z' d v
  | .nw,d,v=>∃ a vs ds,v=.ref a∧d=.lst ds∧H a=none∧H' a=some (.lst vs)∧Z' a=none∧Reps K Z' ds vs
  | .nd,d,v=>∃ a ks,v=.ref a∧d=.dct ks∧H a=none∧DcAt K Z' H' a ks∧Z' a=none
  | .n2,d,v=>Rep K Z' d v∧∃ t b c vs us ds es,v=.ref t∧d=.tup [.lst ds,.lst es]∧SqT K Z' t [.ref b,.ref c]∧H b=none∧H c=none∧b≠c∧Z' b=some (.lst vs)∧Z' c=some (.lst us)∧Reps K (wo Z' b c) ds vs∧Reps K (wo Z' b c) es us
section
variable {K:Fg} {Z Z' H H':Hp} {g:Gr} {d:D} {v:V}
theorem Gd.pk {H3:Hp} (h:Gd K Z' H H' g d v):Gd K Z' H3 H' .pk d v:=by
  cases g with
  | pk=>exact h
  | cl=>exact .inl h
  | nw=>obtain ⟨a,vs,ds,e1,e2,_,e3,_,r⟩:=h;exact .inr (.inl ⟨a,vs,ds,e1,e2,e3,r⟩)
  | nd=>obtain ⟨a,ks,e1,e2,_,e3,_⟩:=h;exact .inr (.inr ⟨a,ks,e1,e2,e3⟩)
  | n2=>exact .inl h.1
theorem Gd.rep (s:Same Z' H') (h:Gd K Z' H H' g d v):Rep K H' d v:=by
  rcases (h.pk (H3:=H)) with h | ⟨a,vs,ds,rfl,rfl,e,r⟩ | ⟨a,ks,rfl,rfl,e⟩
  · exact Rep.mono s d h
  · exact ⟨a,vs,rfl,SqL.of e,Reps.mono s ds r⟩
  · exact ⟨a,rfl,e.mono s (Same.refl _)⟩
theorem Gd.lst {ds:List D} (s:Same Z' H') (h:Gd K Z' H H' g (.lst ds) v):∃ a vs,v=.ref a∧SqL K H' a vs∧Reps K Z' ds vs:=by
  rcases (h.pk (H3:=H)) with ⟨a,vs,e,q,r⟩ | ⟨a,vs,ds',rfl,e,e2,r⟩ | ⟨_,_,_,e,_⟩
  · exact ⟨a,vs,e,s.seq q,r⟩
  · cases e;exact ⟨a,vs,rfl,SqL.of e2,r⟩
  · cases e
theorem Gd.dct {ks:List (Int×Int)} (s:Same Z' H') (h:Gd K Z' H H' g (.dct ks) v):∃ a,v=.ref a∧DcAt K Z' H' a ks:=by
  rcases (h.pk (H3:=H)) with ⟨a,e,q⟩ | ⟨_,_,_,_,e,_⟩ | ⟨a,ks,rfl,e,q⟩
  · exact ⟨a,e,q.mono (Same.refl _) s⟩
  · cases e
  · cases e;exact ⟨a,rfl,q⟩
theorem Gd.tup {ds:List D} (s:Same Z' H') (h:Gd K Z' H H' g (.tup ds) v):∃ a vs,v=.ref a∧SqT K H' a vs∧Reps K Z' ds vs:=by
  rcases (h.pk (H3:=H)) with ⟨a,vs,e,q,r⟩ | ⟨a,vs,ds',rfl,e,e2,r⟩ | ⟨_,_,_,e,_⟩
  · exact ⟨a,vs,e,sameT s q,r⟩
  · cases e
  · cases e
theorem Gd.int {i:Int} (h:Gd K Z' H H' g (.int i) v):v=.int i:=by
  rcases (h.pk (H3:=H)) with h | ⟨_,_,_,_,e,_⟩ | ⟨_,_,_,e,_⟩
  · exact h
  · cases e
  · cases e
theorem Gd.bl {b:Bool} (h:Gd K Z' H H' g (.bl b) v):v=.bl b:=by
  rcases (h.pk (H3:=H)) with h | ⟨_,_,_,_,e,_⟩ | ⟨_,_,_,e,_⟩
  · exact h
  · cases e
  · cases e
theorem Gd.later {Z2 H2 H3:Hp} (x:Ex Z' H' Z2 H2) (h:Gd K Z' H H' g d v):Gd K Z2 H3 H2 .pk d v:=by
  rcases (h.pk (H3:=H)) with h | ⟨a,vs,ds,e1,e2,e3,r⟩ | ⟨a,ks,e1,e2,e3⟩
  · exact .inl (Rep.mono x.z d h)
  · exact .inr (.inl ⟨a,vs,ds,e1,e2,x.h _ _ e3,Reps.mono x.z ds r⟩)
  · exact .inr (.inr ⟨a,ks,e1,e2,e3.mono x.z x.h⟩)
end
inductive Own where
  | L (ds:List D) | T (ks:List (Int×Int))
def OwnOk (K:Fg) (Z:Hp) (a:Addr):Own→HO→Prop
  | .L ds,o=>∃ vs,o=.lst vs∧Reps K Z ds vs
  | .T ks,o=>∃ bs,o=.ext (DicP a ks bs)∧PrAt K Z ks bs
def Own.d:Own→D
  | .L ds=>.lst ds
  | .T ks=>.dct ks
theorem OwnOk.l {K:Fg} {Z:Hp} {a:Addr} {ds:List D} {vs:List V} (h:Reps K Z ds vs):OwnOk K Z a (.L ds) (.lst vs):=⟨vs,rfl,h⟩
theorem OwnOk.mono {K:Fg} {Z Z':Hp} (s:Same Z Z') {a:Addr} {w:Own} {o:HO} (h:OwnOk K Z a w o):OwnOk K Z' a w o:=by
  cases w with
  | L ds=>obtain ⟨vs,e,r⟩:=h;exact ⟨vs,e,Reps.mono s ds r⟩
  | T ks=>obtain ⟨bs,e,r⟩:=h;exact ⟨bs,e,r.mono s⟩
theorem OwnOk.rep {K:Fg} {Z:Hp} {w:Own} {o:HO} {a:Addr} (h:OwnOk K Z a w o) (e:Z a=some o):Rep K Z w.d (.ref a):=by
  cases w with
  | L ds=>obtain ⟨vs,rfl,r⟩:=h;exact ⟨a,vs,rfl,SqL.of e,r⟩
  | T ks=>obtain ⟨bs,rfl,r⟩:=h;exact ⟨a,rfl,bs,e,r⟩
inductive Slot where
  | un | F (d:D) | O (w:Own)
def SlotOk (K:Fg) (Z H:Hp):Slot→Option V→Prop
  | .un,_=>True
  | .F d,x=>∃ v,x=some v∧Rep K Z d v
  | .O w,x=>∃ a o,x=some (.ref a)∧H a=some o∧Z a=none∧OwnOk K Z a w o
abbrev En:=List Slot
structure Rl (K:Fg) (B Z H:Hp) (env:En) (σ:L2.St):Prop where
  bh:Same B H
  zh:Same Z H
  len:env.length=σ.length
  sl:∀ (i:Nat) s,env[i]?=some s→∃ x,σ[i]?=some x∧SlotOk K Z H s x
  ob:∀ (i:Nat) ds a,env[i]?=some (.O ds)→σ[i]?=some (some (.ref a))→B a=none
  ap:∀ (i j:Nat) ds es a,i≠j→env[i]?=some (.O ds)→env[j]?=some (.O es)→σ[i]?=some (some (.ref a))→σ[j]?≠some (some (.ref a))
section
variable {K:Fg} {B Z H Z' H':Hp} {env:En} {σ:L2.St}
theorem SlotOk.ext {s:Slot} {x:Option V} (e:Ex Z H Z' H') (h:SlotOk K Z H s x):SlotOk K Z' H' s x:=by
  cases s with
  | un=>trivial
  | F d=>obtain ⟨v,e1,r⟩:=h;exact ⟨v,e1,Rep.mono e.z d r⟩
  | O w=>obtain ⟨a,o,e1,e2,e3,r⟩:=h;exact ⟨a,o,e1,e.h _ _ e2,e.fr a (by rw [e2];simp) e3,r.mono e.z⟩
theorem Rl.ext (R:Rl K B Z H env σ) (e:Ex Z H Z' H'):Rl K B Z' H' env σ:=
  ⟨R.bh.trans e.h,e.zh,R.len,fun i s h=>let ⟨x,h1,h2⟩:=R.sl i s h;⟨x,h1,h2.ext e⟩,R.ob,R.ap⟩
theorem Rl.setF {d:D} {v:V} (R:Rl K B Z H env σ) (i:Nat) (r:Rep K Z d v):Rl K B Z H (env.set i (.F d)) (σ.set i (some v)):=by
  refine ⟨R.bh,R.zh,by simp [R.len],fun j s h=>?_,fun j ds a h h2=>?_,fun j k ds es a hne h1 h2 h3 h4=>?_⟩
  · by_cases hj:i=j
    · subst hj
      by_cases hl:i<env.length
      · rw [List.getElem?_set_self hl] at h;cases h
        exact ⟨some v,List.getElem?_set_self (by rw [← R.len];exact hl),v,rfl,r⟩
      · rw [List.getElem?_eq_none (by simpa using Nat.le_of_not_lt hl)] at h;cases h
    · rw [List.getElem?_set_ne hj] at h ⊢;exact R.sl j s h
  · by_cases hj:i=j
    · subst hj
      by_cases hl:i<env.length
      · rw [List.getElem?_set_self hl] at h;cases h
      · rw [List.getElem?_eq_none (by simpa using Nat.le_of_not_lt hl)] at h;cases h
    · rw [List.getElem?_set_ne hj] at h h2;exact R.ob j ds a h h2
  · have nij:∀ {j:Nat} {ds:Own},(env.set i (.F d))[j]?=some (.O ds)→i≠j:=fun {j ds} h z=>by
      subst z
      by_cases hl:i<env.length
      · rw [List.getElem?_set_self hl] at h;cases h
      · rw [List.getElem?_eq_none (by simpa using Nat.le_of_not_lt hl)] at h;cases h
    have n1:=nij h1
    have n2:=nij h2
    rw [List.getElem?_set_ne n1] at h1 h3
    rw [List.getElem?_set_ne n2] at h2 h4
    exact R.ap j k ds es a hne h1 h2 h3 h4
theorem Rl.setO {ds:Own} {a:Addr} {vs:HO} (R:Rl K B Z H env σ) (i:Nat) (hb:B a=none) (hz:Z a=none) (hh:H a=some vs) (r:OwnOk K Z a ds vs)
    (hn:∀ (j:Nat) es,j≠i→env[j]?=some (.O es)→σ[j]?≠some (some (.ref a))):Rl K B Z H (env.set i (.O ds)) (σ.set i (some (.ref a))):=by
  have atI:∀ {s:Slot},(env.set i (.O ds))[i]?=some s→s=.O ds∧(σ.set i (some (V.ref a)))[i]?=some (some (.ref a)):=fun {s} h=>by
    by_cases hl:i<env.length
    · rw [List.getElem?_set_self hl] at h;cases h
      exact ⟨rfl,List.getElem?_set_self (by rw [← R.len];exact hl)⟩
    · rw [List.getElem?_eq_none (by simpa using Nat.le_of_not_lt hl)] at h;cases h
  refine ⟨R.bh,R.zh,by simp [R.len],fun j s h=>?_,fun j es b h h2=>?_,fun j k es fs b hne h1 h2 h3 h4=>?_⟩
  · by_cases hj:i=j
    · subst hj
      obtain ⟨e1,e2⟩:=atI h
      subst e1
      exact ⟨_,e2,a,vs,rfl,hh,hz,r⟩
    · rw [List.getElem?_set_ne hj] at h ⊢;exact R.sl j s h
  · by_cases hj:i=j
    · subst hj
      obtain ⟨_,e2⟩:=atI h
      rw [e2] at h2;cases h2;exact hb
    · rw [List.getElem?_set_ne hj] at h h2;exact R.ob j es b h h2
  · by_cases hj:i=j
    · subst hj
      obtain ⟨_,e2⟩:=atI h1
      rw [e2] at h3;cases h3
      rw [List.getElem?_set_ne hne] at h2 h4
      exact hn k fs (Ne.symm hne) h2 h4
    · by_cases hk:i=k
      · subst hk
        obtain ⟨_,e2⟩:=atI h2
        rw [e2] at h4;cases h4
        rw [List.getElem?_set_ne hj] at h1 h3
        exact hn j es (Ne.symm hj) h1 h3
      · rw [List.getElem?_set_ne hj] at h1 h3
        rw [List.getElem?_set_ne hk] at h2 h4
        exact R.ap j k es fs b hne h1 h2 h3 h4
theorem Rl.wr {ds es:Own} {a:Addr} {vs:HO} (R:Rl K B Z H env σ) {i:Nat} (hi:env[i]?=some (.O ds)) (ha:σ[i]?=some (some (.ref a))) (r:OwnOk K Z a es vs) :
    Rl K B Z (upd H a vs) (env.set i (.O es)) σ∧Ex Z B Z (upd H a vs):=by
  have hb:=R.ob i ds a hi ha
  obtain ⟨x,e1,b,us,e2,e3,hz,_⟩:=R.sl i _ hi
  rw [ha] at e1;cases e1;cases e2
  have hl:i<env.length:=(List.getElem?_eq_some_iff.mp hi).1
  have sb:Same B (upd H a vs):=smUpdR R.bh hb
  have sz:Same Z (upd H a vs):=smUpdR R.zh hz
  refine ⟨⟨sb,sz,by simp [R.len],fun j s h=>?_,fun j fs b h h2=>?_,fun j k fs gs b hne h1 h2 h3 h4=>?_⟩,⟨sb,Same.refl _,sz,fun _ _ e=>e⟩⟩
  · by_cases hj:i=j
    · subst hj
      rw [List.getElem?_set_self hl] at h;cases h
      exact ⟨_,ha,a,vs,rfl,upd_same,hz,r⟩
    · rw [List.getElem?_set_ne hj] at h
      obtain ⟨x,e1,q⟩:=R.sl j s h
      refine ⟨x,e1,?_⟩
      cases s with
      | un=>trivial
      | F d=>exact q
      | O fs=>
        obtain ⟨b,us',e4,e5,e6,q⟩:=q
        refine ⟨b,us',e4,?_,e6,q⟩
        rw [upd_ne (fun z=>?_)]
        · exact e5
        · subst z;subst e4
          exact R.ap i j ds fs b hj hi h ha e1
  · by_cases hj:i=j
    · subst hj;rw [ha] at h2;cases h2;exact hb
    · rw [List.getElem?_set_ne hj] at h;exact R.ob j fs b h h2
  · have old:∀ {j:Nat} {fs:Own},(env.set i (.O es))[j]?=some (.O fs)→∃ fs',env[j]?=some (.O fs'):=fun {j fs} h=>by
      by_cases hj:i=j
      · subst hj;exact ⟨ds,hi⟩
      · rw [List.getElem?_set_ne hj] at h;exact ⟨fs,h⟩
    obtain ⟨fs',h1'⟩:=old h1
    obtain ⟨gs',h2'⟩:=old h2
    exact R.ap j k fs' gs' b hne h1' h2' h3 h4
theorem Rl.frz {ds:Own} (R:Rl K B Z H env σ) {i:Nat} (hi:env[i]?=some (.O ds)):∃ Z',Rl K B Z' H (env.set i (.F ds.d)) σ∧Ex Z B Z' H:=by
  obtain ⟨x,e1,a,vs,e2,e3,hz,r⟩:=R.sl i _ hi
  subst e2
  have hb:=R.ob i ds a hi e1
  have hl:i<env.length:=(List.getElem?_eq_some_iff.mp hi).1
  have s1:Same Z (upd Z a vs):=smUpd hz
  have s2:Same (upd Z a vs) H:=smUpdL R.zh e3
  refine ⟨upd Z a vs,⟨R.bh,s2,by simp [R.len],fun j s h=>?_,fun j fs b h h2=>?_,fun j k fs gs b hne h1 h2 h3 h4=>?_⟩,⟨R.bh,s1,s2,fun b hbn e=>?_⟩⟩
  · by_cases hj:i=j
    · subst hj
      rw [List.getElem?_set_self hl] at h;cases h
      exact ⟨_,e1,_,rfl,(r.mono s1).rep upd_same⟩
    · rw [List.getElem?_set_ne hj] at h
      obtain ⟨y,e4,q⟩:=R.sl j s h
      refine ⟨y,e4,?_⟩
      cases s with
      | un=>trivial
      | F d=>obtain ⟨v,e5,q⟩:=q;exact ⟨v,e5,Rep.mono s1 d q⟩
      | O fs=>
        obtain ⟨b,us',e5,e6,e7,q⟩:=q
        refine ⟨b,us',e5,e6,?_,q.mono s1⟩
        rw [upd_ne (fun z=>?_)]
        · exact e7
        · subst z;subst e5
          exact R.ap i j ds fs b hj hi h e1 e4
  · by_cases hj:i=j
    · subst hj;rw [List.getElem?_set_self hl] at h;cases h
    · rw [List.getElem?_set_ne hj] at h;exact R.ob j fs b h h2
  · have nij:∀ {j:Nat} {es:Own},(env.set i (.F ds.d))[j]?=some (.O es)→i≠j:=fun {j es} h z=>by
      subst z;rw [List.getElem?_set_self hl] at h;cases h
    have n1:=nij h1
    have n2:=nij h2
    rw [List.getElem?_set_ne n1] at h1
    rw [List.getElem?_set_ne n2] at h2
    exact R.ap j k fs gs b hne h1 h2 h3 h4
  · rw [upd_ne (fun z=>hbn (by rw [z];exact hb))];exact e
end
end Mi
namespace Mi
open PySem PySem.Spec PyProof.Rows L2
abbrev Fe:=En→Option D
abbrev Fb:=En→Option Bool
abbrev Fes:=En→Option (List D)
def T (K:Fg) (g:Gr) (f:Fe):TE:=fun σ H Q=>∃ env B Z d,Rl K B Z H env σ∧f env=some d∧∀ v Z' H',Ex Z H Z' H'→Gd K Z' H H' g d v→Q v H'
def TB (K:Fg) (f:Fb):TT:=fun σ H Q=>∃ env B Z b,Rl K B Z H env σ∧f env=some b∧∀ Z' H',Ex Z H Z' H'→Q b H'
def TL (K:Fg) (f:Fes):TA:=fun σ H Q=>∃ env B Z ds,Rl K B Z H env σ∧f env=some ds∧∀ vs Z' H',Ex Z H Z' H'→Reps K Z' ds vs→Q vs H'
def PD (X:Cx) (g:Gr) (e:Expr) (f:Fe):Prop:=PE X e (T X.K g f)
def PB (X:Cx) (e:Expr) (f:Fb):Prop:=PT X e (TB X.K f)
def PBW (X:Cx) (e:Expr) (f:Fb):Prop:=PW X e (TB X.K f)
structure PL (X:Cx) (es:List Expr) (f:Fes):Prop where
  p:PA X es (TL X.K f)
  l:∀ env ds,f env=some ds→ds.length=es.length
section
variable {X:Cx}
theorem PE.imp {e:Expr} {t t':TE} (h:PE X e t) (i:∀ σ H Q,t' σ H Q→t σ H Q):PE X e t':=fun pins s σ H Q I q=>h pins s σ H Q I (i σ H Q q)
theorem PT.imp {e:Expr} {t t':TT} (h:PT X e t) (i:∀ σ H Q,t' σ H Q→t σ H Q):PT X e t':=fun pins s σ H Q I q=>h pins s σ H Q I (i σ H Q q)
theorem PW.imp {e:Expr} {t t':TT} (h:PW X e t) (i:∀ σ H Q,t' σ H Q→t σ H Q):PW X e t':=fun wh pins s σ H Q I q=>h wh pins s σ H Q I (i σ H Q q)
theorem PA.imp {e:List Expr} {t t':TA} (h:PA X e t) (i:∀ σ H Q,t' σ H Q→t σ H Q):PA X e t':=fun pos pins s σ H Q I q=>h pos pins s σ H Q I (i σ H Q q)
def fC (d:D):Fe:=fun _=>some d
theorem fin0 {K:Fg} {g:D} {v:V} {σ:L2.St} {H:Hp} {Q:VK} (h:T K .cl (fC g) σ H Q) (r:∀ Z,Rep K Z g v):Q v H:=by
  obtain ⟨env,B,Z,d,R,e,k⟩:=h
  cases e
  exact k v Z H (Ex.refl R.zh) (r Z)
theorem m_int {i j pos}:PD X .cl (.Constant (.int i) j pos) (fC (.int i)):=PE.imp pe_int fun _ _ _ h=>fin0 h fun _=>rfl
theorem m_bl {b j pos}:PD X .cl (.Constant (.bool b) j pos) (fC (.bl b)):=PE.imp pe_bl fun _ _ _ h=>fin0 h fun _=>rfl
theorem m_non {j pos}:PD X .cl (.Constant .none j pos) (fC .non):=PE.imp pe_non fun _ _ _ h=>fin0 h fun _=>rfl
theorem m_str {x j pos} (hk:PyData.strOk x=true:=by decide +kernel):PD X .cl (.Constant (.str x) j pos) (fC (.str x)):=PE.imp pe_str fun _ _ _ h=>fin0 h fun _=>⟨rfl,hk⟩
def getF (env:En) (i:Nat):Option D:=match env[i]? with | some (.F d)=>some d | _=>none
def getP (env:En) (i:Nat):Option D:=match env[i]? with | some (.F d)=>some d | some (.O w)=>some w.d | _=>none
theorem m_var (i:Nat) {x:Str} {pos:Pos} (hN:X.N[i]?=some x:=by rfl) (hv:Vis X.env.scope x:=by first | exact Or.inl rfl | exact Or.inr (Or.inl rfl) | exact Or.inr (Or.inr rfl)) (hd:(x==("__debug__":Str))=false:=by decide)
    (hcd:(x==("__classdict__":Str))=false:=by decide):PD X .cl (.Name x pos) (fun env=>getF env i):=PE.imp (pe_var hN hv hd hcd) fun σ H Q h=>by
  obtain ⟨env,B,Z,d,R,e,k⟩:=h
  dsimp only [getF] at e
  split at e
  · rename_i d' h1
    cases e
    obtain ⟨x,h2,v,h3,r⟩:=R.sl i _ h1
    subst h3
    exact ⟨v,h2,k v Z H (Ex.refl R.zh) r⟩
  · cases e
theorem m_pv (i:Nat) {x:Str} {pos:Pos} (hN:X.N[i]?=some x:=by rfl) (hv:Vis X.env.scope x:=by first | exact Or.inl rfl | exact Or.inr (Or.inl rfl) | exact Or.inr (Or.inr rfl)) (hd:(x==("__debug__":Str))=false:=by decide)
    (hcd:(x==("__classdict__":Str))=false:=by decide):PD X .pk (.Name x pos) (fun env=>getP env i):=PE.imp (pe_var hN hv hd hcd) fun σ H Q h=>by
  obtain ⟨env,B,Z,d,R,e,k⟩:=h
  dsimp only [getP] at e
  split at e
  · rename_i d' h1
    cases e
    obtain ⟨x,h2,v,h3,r⟩:=R.sl i _ h1
    subst h3
    exact ⟨v,h2,k v Z H (Ex.refl R.zh) (.inl r)⟩
  · rename_i ds h1
    cases e
    obtain ⟨x,h2,a,vs,h3,h4,h5,r⟩:=R.sl i _ h1
    subst h3
    refine ⟨_,h2,k _ Z H (Ex.refl R.zh) ?_⟩
    cases ds with
    | L ds=>obtain ⟨us,rfl,r⟩:=r;exact .inr (.inl ⟨a,us,ds,rfl,rfl,h4,r⟩)
    | T ks=>obtain ⟨bs,rfl,r⟩:=r;exact .inr (.inr ⟨a,ks,rfl,rfl,bs,h4,r⟩)
  · cases e
theorem m_cl {e:Expr} {f:Fe} (h:PD X .nw e f):PD X .cl e f:=PE.imp h fun σ H Q hq_=>by
  obtain ⟨env,B,Z,d,R,e,k⟩:=hq_
  refine ⟨env,B,Z,d,R,e,fun v Z' H' x g=>?_⟩
  obtain ⟨a,vs,ds,rfl,rfl,h1,h2,h3,r⟩:=g
  have s1:Same Z' (upd Z' a (.lst vs)):=smUpd h3
  exact k _ (upd Z' a (.lst vs)) H' ⟨x.h,x.z.trans s1,smUpdL x.zh h2,fun b hb e=>by rw [upd_ne (fun z=>hb (by rw [z];exact h1))];exact x.fr b hb e⟩ ⟨a,vs,rfl,SqL.of upd_same,Reps.mono s1 ds r⟩
def fNil:Fes:=fun _=>some []
def fCons (f:Fe) (fs:Fes):Fes:=fun env=>(f env).bind fun d=>(fs env).bind fun ds=>some (d::ds)
theorem l_nil:PL X [] fNil:=⟨PA.imp pa_nil fun σ H Q ⟨env,B,Z,ds,R,e,k⟩=>by cases e;exact k [] Z H (Ex.refl R.zh) rfl,fun env ds e=>by cases e;rfl⟩
theorem fCons_some {f:Fe} {fs:Fes} {env:En} {ds:List D} (h:fCons f fs env=some ds):∃ d r,f env=some d∧fs env=some r∧ds=d::r:=by
  unfold fCons at h
  obtain ⟨d,h1,h2⟩:=Option.bind_eq_some_iff.mp h
  obtain ⟨r,h3,h4⟩:=Option.bind_eq_some_iff.mp h2
  cases h4
  exact ⟨d,r,h1,h3,rfl⟩
theorem l_cons {e:Expr} {es:List Expr} {f:Fe} {fs:Fes} (h:PD X .cl e f) (hs:PL X es fs) (hst:starEach (e::es) X.env=(false,eval e X.env)::starEach es X.env:=by rfl):PL X (e::es) (fCons f fs):=by
  refine ⟨PA.imp (pa_cons h hs.p hst) fun σ H Q ⟨env,B,Z,ds,R,e,k⟩=>?_,fun env ds e=>?_⟩
  · obtain ⟨d,r,h1,h2,rfl⟩:=fCons_some e
    refine ⟨env,B,Z,d,R,h1,fun v Z1 H1 x1 g1=>⟨env,B,Z1,r,R.ext x1,h2,fun vs Z2 H2 x2 g2=>?_⟩⟩
    exact k (v::vs) Z2 H2 (x1.trans x2) ⟨v,vs,rfl,Rep.mono x2.z d g1,g2⟩
  · obtain ⟨d,r,h1,h2,rfl⟩:=fCons_some e
    simp [hs.l env r h2]
def fTup (fs:Fes):Fe:=fun env=>(fs env).bind fun ds=>some (.tup ds)
def fLst (fs:Fes):Fe:=fun env=>(fs env).bind fun ds=>some (.lst ds)
theorem m_tup {es:List Expr} {fs:Fes} {x1 pos} (h:PL X es fs) (hl:es.length≤1000:=by decide):PD X .cl (.Tuple es x1 pos) (fTup fs):=PE.imp (pe_tup h.p) fun σ H Q hq_=>by
  obtain ⟨env,B,Z,d,R,e,k⟩:=hq_
  obtain ⟨ds,h1,h2⟩:=Option.bind_eq_some_iff.mp e
  cases h2
  refine ⟨env,B,Z,ds,R,h1,fun vs Z1 H1 x1 r=>⟨?_,fun p hp=>?_⟩⟩
  · rw [← r.len,h.l env ds h1];exact Nat.le_of_lt (small1000 hl)
  · have s1:Same Z1 (upd Z1 p (.tup vs)):=smUpd (x1.zh.free hp)
    exact k _ (upd Z1 p (.tup vs)) _ (x1.trans (Ex.new x1.zh hp)) ⟨p,vs,rfl,SqT.of upd_same,Reps.mono s1 ds r⟩
theorem m_lst {es:List Expr} {fs:Fes} {pos} (h:PL X es fs) (hl:es.length≤1000:=by decide):PD X .nw (.List es pos) (fLst fs):=PE.imp (pe_lst h.p) fun σ H Q hq_=>by
  obtain ⟨env,B,Z,d,R,e,k⟩:=hq_
  obtain ⟨ds,h1,h2⟩:=Option.bind_eq_some_iff.mp e
  cases h2
  refine ⟨env,B,Z,ds,R,h1,fun vs Z1 H1 x1 r=>⟨?_,fun p hp=>?_⟩⟩
  · rw [← r.len,h.l env ds h1];exact Nat.le_of_lt (small1000 hl)
  · exact k _ Z1 _ (x1.trans (Ex.newL x1.zh hp)) ⟨p,vs,ds,rfl,rfl,x1.h.free hp,upd_same,x1.zh.free hp,r⟩
theorem ifS {α:Type} {c:Prop} [Decidable c] {a d:α} (h:(if c then some a else none)=some d):c∧a=d:=by
  by_cases hc:c
  · rw [if_pos hc] at h;exact ⟨hc,Option.some.inj h⟩
  · rw [if_neg hc] at h;cases h
def op2 (b:D→D→Option D) (fa fb:Fe):Fe:=fun env=>(fa env).bind fun x=>(fb env).bind fun y=>b x y
theorem op2_some {b:D→D→Option D} {fa fb:Fe} {env:En} {d:D} (h:op2 b fa fb env=some d):∃ x y,fa env=some x∧fb env=some y∧b x y=some d:=by
  unfold op2 at h
  obtain ⟨x,h1,h2⟩:=Option.bind_eq_some_iff.mp h
  obtain ⟨y,h3,h4⟩:=Option.bind_eq_some_iff.mp h2
  exact ⟨x,y,h1,h3,h4⟩
theorem Gd.frm {K:Fg} {Z' H0 H H':Hp} {g:Gr} {d:D} {v:V} (s:Same H0 H) (h:Gd K Z' H H' g d v):Gd K Z' H0 H' g d v:=by
  cases g with
  | pk=>exact h
  | cl=>exact h
  | nw=>obtain ⟨a,vs,ds,e1,e2,e3,e4⟩:=h;exact ⟨a,vs,ds,e1,e2,s.free e3,e4⟩
  | nd=>obtain ⟨a,ks,e1,e2,e3,e4⟩:=h;exact ⟨a,ks,e1,e2,s.free e3,e4⟩
  | n2=>obtain ⟨r,t,b,c,vs,us,ds,es,e1,e2,e3,e4,e5,e6⟩:=h;exact ⟨r,t,b,c,vs,us,ds,es,e1,e2,e3,s.free e4,s.free e5,e6⟩
def Does (K:Fg) (g:Gr) (b:D→D→Option D) (r:R2):Prop:=
  ∀ {Z H:Hp} {x y:V} {dx dy d:D} {Q:VK},Same Z H→Gd K Z H H .pk dx x→Gd K Z H H .pk dy y→b dx dy=some d→(∀ v Z' H',Ex Z H Z' H'→Gd K Z' H H' g d v→Q v H')→r x y H Q
theorem op_pass {K:Fg} {g ga gb:Gr} {b:D→D→Option D} {r:R2} (hb:Does K g b r) {fa fb:Fe} {σ:L2.St} {H:Hp} {Q:VK} (h:T K g (op2 b fa fb) σ H Q):tOp r (T K ga fa) (T K gb fb) σ H Q:=by
  obtain ⟨env,B,Z,d,R,e,k⟩:=h
  obtain ⟨dx,dy,h1,h2,h3⟩:=op2_some e
  refine ⟨env,B,Z,dx,R,h1,fun v Z1 H1 x1 g1=>⟨env,B,Z1,dy,R.ext x1,h2,fun u Z2 H2 x2 g2=>?_⟩⟩
  refine hb x2.zh (g1.later x2) (show Gd K Z2 H2 H2 .pk dy u from g2.pk) h3 fun w Z3 H3 x3 g3=>?_
  exact k w Z3 H3 ((x1.trans x2).trans x3) (Gd.frm (x1.h.trans x2.h) g3)
theorem m_op {op:Operator} {r:R2} {g ga gb:Gr} {b:D→D→Option D} {l rr:Expr} {fa fb:Fe} {pos:Pos} (ho:OpR X (binaryOp op) r) (hd:Does X.K g b r) (ha:PD X ga l fa) (hb:PD X gb rr fb) :
    PD X g (.BinOp l op rr pos) (op2 b fa fb):=PE.imp (pe_op ho ha hb) fun _ _ _ h=>op_pass hd h
theorem m_cmp {op:CmpOp} {r:R2} {g ga gb:Gr} {b:D→D→Option D} {l rr:Expr} {fa fb:Fe} {pos:Pos} (ho:OpR X (compareOp op) r) (hd:Does X.K g b r) (ha:PD X ga l fa) (hb:PD X gb rr fb) (hm:behindInMarks op rr=false:=by rfl) :
    PD X g (.Compare l [op] [rr] pos) (op2 b fa fb):=PE.imp (pe_cmpR ho ha hb hm) fun _ _ _ h=>op_pass hd h
def asB:D→Option Bool
  | .bl b=>some b
  | _=>none
def fB (f:Fe):Fb:=fun env=>(f env).bind asB
theorem asB_some {d:D} {b:Bool} (h:asB d=some b):d=.bl b:=by
  cases d<;>cases h;rfl
theorem tb_of {K:Fg} {g:Gr} {f:Fe} {σ:L2.St} {H:Hp} {Q:Bool→Hp→Prop} (h:TB K (fB f) σ H Q):T K g f σ H (fun x H'=>∃ k,x=.bl k∧Q k H'):=by
  obtain ⟨env,B,Z,b,R,e,k⟩:=h
  obtain ⟨d,h1,h2⟩:=Option.bind_eq_some_iff.mp e
  cases asB_some h2
  exact ⟨env,B,Z,_,R,h1,fun v Z' H' x g=>⟨b,g.bl,k Z' H' x⟩⟩
theorem b_cmp {op:CmpOp} {r:R2} {ga gb:Gr} {b:D→D→Option D} {l rr:Expr} {fa fb:Fe} {pos:Pos} (ho:OpR X (compareOp op) r) (hd:Does X.K .cl b r) (ha:PD X ga l fa) (hb:PD X gb rr fb) (hm:behindInMarks op rr=false:=by rfl) :
    PB X (.Compare l [op] [rr] pos) (fB (op2 b fa fb)):=PT.imp (pt_cmpR ho ha hb hm) fun _ _ _ h=>op_pass hd (tb_of h)
theorem b_val {e:Expr} {g:Gr} {f:Fe} (h:PD X g e f) (he:∀ whole,isTrue e X.env whole=(do let v ← whole;standAt e.pos;holding [v] (truthy v)):=by intro _;rfl):PB X e (fB f):=
  PT.imp (pt_val h he) fun _ _ _ h=>tb_of h
def iF (g:Int→Int→D):D→D→Option D
  | .int i,.int j=>some (g i j)
  | _,_=>none
theorem does_I0 {K:Fg} {g:Int→Int→V} {g':Int→Int→D} (hg:∀ Z i j,Rep K Z (g' i j) (g i j)):Does K .cl (iF g') (rI0 g):=fun {Z H x y dx dy d Q} s h1 h2 e k=>by
  cases dx<;>try cases e
  all_goals (cases dy<;>cases e)
  exact ⟨_,_,h1.int,h2.int,k _ Z H (Ex.refl s) (hg _ _ _)⟩
def iFC (c:Int→Int→Bool) (g:Int→Int→D):D→D→Option D
  | .int i,.int j=>if c i j then some (g i j) else none
  | _,_=>none
theorem does_I {K:Fg} {C:Int→Int→Prop} {c:Int→Int→Bool} {g:Int→Int→V} {g':Int→Int→D} (hc:∀ i j,c i j=true→C i j) (hg:∀ Z i j,Rep K Z (g' i j) (g i j)):Does K .cl (iFC c g') (rI C g):=fun {Z H x y dx dy d Q} s h1 h2 e k=>by
  cases dx<;>try cases e
  all_goals (cases dy<;>try cases e)
  rename_i i j
  have e':(if c i j=true then some (g' i j) else none)=some d:=e
  by_cases hcc:c i j=true
  · rw [if_pos hcc] at e'
    cases e'
    exact ⟨_,_,h1.int,h2.int,hc _ _ hcc,k _ Z H (Ex.refl s) (hg _ _ _)⟩
  · rw [if_neg hcc] at e'
    cases e'
abbrev addI:=iF fun i j=>.int (i+j)
abbrev subI:=iF fun i j=>.int (i-j)
abbrev ltI:=iF fun i j=>.bl (decide (i<j))
abbrev leI:=iF fun i j=>.bl (decide (i≤j))
abbrev gtI:=iF fun i j=>.bl (decide (j<i))
abbrev geI:=iF fun i j=>.bl (decide (j≤i))
def big (i:Int):Bool:=decide (i.natAbs<2 ^ 4096)
abbrev mulI:=iFC (fun i j=>(big i&&big j)) fun i j=>.int (i*j)
abbrev fdivI:=iFC (fun _ j=>decide (0<j∧j<1073741824)) fun i j=>.int (i/j)
abbrev modI:=iFC (fun _ j=>decide (0<j)) fun i j=>.int (i%j)
abbrev powI:=iFC (fun i j=>big i&&decide (0≤j∧j≤1000)) fun i j=>.int (i ^ j.toNat)
theorem d_add {K:Fg}:Does K .cl addI (rI0 fun i j=>.int (i+j)):=does_I0 (by intro _ _ _;rfl)
theorem d_sub {K:Fg}:Does K .cl subI (rI0 fun i j=>.int (i-j)):=does_I0 (by intro _ _ _;rfl)
theorem d_lt {K:Fg}:Does K .cl ltI (rI0 fun i j=>.bl (decide (i<j))):=does_I0 (by intro _ _ _;rfl)
theorem d_le {K:Fg}:Does K .cl leI (rI0 fun i j=>.bl (decide (i≤j))):=does_I0 (by intro _ _ _;rfl)
theorem d_gt {K:Fg}:Does K .cl gtI (rI0 fun i j=>.bl (decide (j<i))):=does_I0 (by intro _ _ _;rfl)
theorem d_ge {K:Fg}:Does K .cl geI (rI0 fun i j=>.bl (decide (j≤i))):=does_I0 (by intro _ _ _;rfl)
theorem d_fdiv {K:Fg}:Does K .cl fdivI (rI CDiv fun i j=>.int (i/j)):=does_I (fun i j h=>of_decide_eq_true h) (by intro _ _ _;rfl)
theorem d_mod {K:Fg}:Does K .cl modI (rI (fun _ j=>0<j) fun i j=>.int (i%j)):=does_I (fun i j h=>of_decide_eq_true h) (by intro _ _ _;rfl)
theorem bits_big {i:Int} (h:big i=true):Builtin.Int.intBits i≤4096:=by
  have h':i.natAbs<2 ^ 4096:=of_decide_eq_true h
  unfold Builtin.Int.intBits
  split
  · omega
  · rename_i hz
    have hn:i.natAbs≠0:=by simpa using hz
    have:=(Nat.log2_lt hn).mpr h'
    omega
def CMulB (i j:Int):Prop:=big i=true∧big j=true
theorem op_mulB:OpR X (binaryOp .Mult) (rI CMulB fun i j=>.int (i*j)):=opI fun _ _ _ _ _ _ _ hc q=>mul_int q (.of_bits (Nat.le_trans (bits_big hc.1) (by decide)) (Nat.le_trans (bits_big hc.2) (by decide)))
theorem d_mul {K:Fg}:Does K .cl mulI (rI CMulB fun i j=>.int (i*j)):=does_I (fun i j h=>by
  simp only [Bool.and_eq_true] at h
  exact h) (by intro _ _ _;rfl)
def CPowB (i j:Int):Prop:=big i=true∧0≤j∧j≤1000
theorem op_powB:OpR X (binaryOp .Pow) (rI CPowB fun i j=>.int (i ^ j.toNat)):=opI fun i j _ _ _ _ _ hc q=>pow_int hc.2.1 (by
  have h1:(Builtin.Int.intBits i:Int)≤4096:=by have:=bits_big hc.1;omega
  have h2:(Builtin.Int.intBits i:Int)*j≤4096*1000:=Int.mul_le_mul h1 hc.2.2 hc.2.1 (by decide)
  exact Int.le_trans h2 (by decide)) q
theorem d_pow {K:Fg}:Does K .cl powI (rI CPowB fun i j=>.int (i ^ j.toNat)):=does_I (fun i j h=>by
  simp only [Bool.and_eq_true,decide_eq_true_eq] at h
  exact ⟨h.1,h.2.1,h.2.2⟩) (by intro _ _ _;rfl)
variable {l r c:Expr} {fa fb fc:Fe} {ga gb gc:Gr} {pos:Pos}
theorem m_add (ha:PD X ga l fa) (hb:PD X gb r fb):PD X .cl (.BinOp l .Add r pos) (op2 addI fa fb):=m_op op_add d_add ha hb
theorem m_sub (ha:PD X ga l fa) (hb:PD X gb r fb):PD X .cl (.BinOp l .Sub r pos) (op2 subI fa fb):=m_op op_sub d_sub ha hb
theorem m_mul (ha:PD X ga l fa) (hb:PD X gb r fb):PD X .cl (.BinOp l .Mult r pos) (op2 mulI fa fb):=m_op op_mulB d_mul ha hb
theorem m_fdiv (ha:PD X ga l fa) (hb:PD X gb r fb):PD X .cl (.BinOp l .FloorDiv r pos) (op2 fdivI fa fb):=m_op op_fdiv d_fdiv ha hb
theorem m_mod (ha:PD X ga l fa) (hb:PD X gb r fb):PD X .cl (.BinOp l .Mod r pos) (op2 modI fa fb):=m_op op_mod d_mod ha hb
theorem m_pow (ha:PD X ga l fa) (hb:PD X gb r fb):PD X .cl (.BinOp l .Pow r pos) (op2 powI fa fb):=m_op op_powB d_pow ha hb
theorem m_le (ha:PD X ga l fa) (hb:PD X gb r fb):PD X .cl (.Compare l [.LtE] [r] pos) (op2 leI fa fb):=m_cmp op_le d_le ha hb (nomark _)
theorem m_gt (ha:PD X ga l fa) (hb:PD X gb r fb):PD X .cl (.Compare l [.Gt] [r] pos) (op2 gtI fa fb):=m_cmp op_gt d_gt ha hb (nomark _)
theorem b_lt (ha:PD X ga l fa) (hb:PD X gb r fb):PB X (.Compare l [.Lt] [r] pos) (fB (op2 ltI fa fb)):=b_cmp op_lt d_lt ha hb (nomark _)
theorem b_le (ha:PD X ga l fa) (hb:PD X gb r fb):PB X (.Compare l [.LtE] [r] pos) (fB (op2 leI fa fb)):=b_cmp op_le d_le ha hb (nomark _)
theorem b_ge (ha:PD X ga l fa) (hb:PD X gb r fb):PB X (.Compare l [.GtE] [r] pos) (fB (op2 geI fa fb)):=b_cmp op_ge d_ge ha hb (nomark _)
def un1 (g:D→Option D) (f:Fe):Fe:=fun env=>(f env).bind g
def andF (f g:Fe):Fe:=fun env=>(f env).bind fun x=>match x with | .bl true=>g env | .bl false=>some (.bl false) | _=>none
def notD:D→Option D
  | .bl b=>some (.bl !b)
  | _=>none
variable {rest:List Expr} {fr:Fe} {gr:Gr}
theorem m_one {op} (ha:PD X ga l fa):PD X ga (.BoolOp op [l] pos) fa:=pe_one ha
theorem m_and (ha:PD X ga l fa) (hb:PD X .cl (.BoolOp .And (r::rest) pos) fr):PD X .cl (.BoolOp .And (l::r::rest) pos) (andF fa fr):=PE.imp (pe_and ha hb) fun σ H Q hq_=>by
  obtain ⟨env,B,Z,d,R,e,k⟩:=hq_
  obtain ⟨x,h1,h2⟩:=Option.bind_eq_some_iff.mp e
  refine ⟨env,B,Z,x,R,h1,fun v Z1 H1 x1 g1=>?_⟩
  cases x with
  | bl b=>
    refine ⟨b,g1.bl,?_⟩
    cases b with
    | true=>exact iteT ⟨env,B,Z1,d,R.ext x1,h2,fun u Z2 H2 x2 g2=>k u Z2 H2 (x1.trans x2) g2⟩
    | false=>cases h2;exact iteF (k _ Z1 H1 x1 rfl)
  | _=>cases h2
theorem m_not (ha:PD X ga l fa):PD X .cl (.UnaryOp .Not l pos) (un1 notD fa):=PE.imp (pe_not ha) fun σ H Q hq_=>by
  obtain ⟨env,B,Z,d,R,e,k⟩:=hq_
  obtain ⟨x,h1,h2⟩:=Option.bind_eq_some_iff.mp e
  refine ⟨env,B,Z,x,R,h1,fun v Z1 H1 x1 g1=>?_⟩
  cases x<;>cases h2
  exact ⟨_,g1.bl,k _ Z1 H1 x1 rfl⟩
def andB (f g:Fb):Fb:=fun env=>(f env).bind fun x=>if x=true then g env else some false
def orB (f g:Fb):Fb:=fun env=>(f env).bind fun x=>if x=true then some true else g env
def notB (f:Fb):Fb:=fun env=>(f env).bind fun x=>some !x
variable {ta tb:Fb}
theorem w_and1 (ha:PB X l ta):PBW X (.BoolOp .And [l] pos) ta:=pw_and1 ha
theorem w_or1 (ha:PB X l ta):PBW X (.BoolOp .Or [l] pos) ta:=pw_or1 ha
theorem w_and (ha:PB X l ta) (hb:PBW X (.BoolOp .And (r::rest) pos) tb):PBW X (.BoolOp .And (l::r::rest) pos) (andB ta tb):=PW.imp (pw_and ha hb) fun σ H Q hq_=>by
  obtain ⟨env,B,Z,d,R,e,k⟩:=hq_
  obtain ⟨x,h1,h2⟩:=Option.bind_eq_some_iff.mp e
  refine ⟨env,B,Z,x,R,h1,fun Z1 H1 x1=>?_⟩
  cases x with
  | true=>rw [if_pos rfl] at h2;exact iteT ⟨env,B,Z1,d,R.ext x1,h2,fun Z2 H2 x2=>k Z2 H2 (x1.trans x2)⟩
  | false=>rw [if_neg (by simp)] at h2;cases h2;exact iteF (k Z1 H1 x1)
theorem w_or (ha:PB X l ta) (hb:PBW X (.BoolOp .Or (r::rest) pos) tb):PBW X (.BoolOp .Or (l::r::rest) pos) (orB ta tb):=PW.imp (pw_or ha hb) fun σ H Q hq_=>by
  obtain ⟨env,B,Z,d,R,e,k⟩:=hq_
  obtain ⟨x,h1,h2⟩:=Option.bind_eq_some_iff.mp e
  refine ⟨env,B,Z,x,R,h1,fun Z1 H1 x1=>?_⟩
  cases x with
  | false=>rw [if_neg (by simp)] at h2;exact iteF ⟨env,B,Z1,d,R.ext x1,h2,fun Z2 H2 x2=>k Z2 H2 (x1.trans x2)⟩
  | true=>rw [if_pos rfl] at h2;cases h2;exact iteT (k Z1 H1 x1)
theorem b_w (h:PBW X l ta):PB X l ta:=PW.pt h
theorem b_not (ha:PB X l ta):PB X (.UnaryOp .Not l pos) (notB ta):=PT.imp (pt_not ha) fun σ H Q hq_=>by
  obtain ⟨env,B,Z,d,R,e,k⟩:=hq_
  obtain ⟨x,h1,h2⟩:=Option.bind_eq_some_iff.mp e
  cases h2
  exact ⟨env,B,Z,x,R,h1,fun Z1 H1 x1=>k Z1 H1 x1⟩
def iteFn (t:Fb) (f g:Fe):Fe:=fun env=>(t env).bind fun b=>if b=true then f env else g env
theorem m_ite {g:Gr} {t:Expr} (ht:PB X t ta) (ha:PD X g l fa) (hb:PD X g r fb):PD X g (.IfExp t l r pos) (iteFn ta fa fb):=PE.imp (pe_ifExp ht ha hb) fun σ H Q hq_=>by
  obtain ⟨env,B,Z,d,R,e,k⟩:=hq_
  obtain ⟨x,h1,h2⟩:=Option.bind_eq_some_iff.mp e
  refine ⟨env,B,Z,x,R,h1,fun Z1 H1 x1=>?_⟩
  cases x with
  | true=>rw [if_pos rfl] at h2;exact iteT ⟨env,B,Z1,d,R.ext x1,h2,fun v Z2 H2 x2 g2=>k v Z2 H2 (x1.trans x2) (g2.frm x1.h)⟩
  | false=>rw [if_neg (by simp)] at h2;exact iteF ⟨env,B,Z1,d,R.ext x1,h2,fun v Z2 H2 x2 g2=>k v Z2 H2 (x1.trans x2) (g2.frm x1.h)⟩
def chF (b b':D→D→Option D) (fa fb fc:Fe):Fe:=fun env=>(fa env).bind fun x=>(fb env).bind fun y=>(b x y).bind fun z=>match z with
  | .bl true=>(fc env).bind fun w=>b' y w
  | .bl false=>some (.bl false)
  | _=>none
theorem ch_pass {K:Fg} {b b':D→D→Option D} {r r':R2} (hb:Does K .cl b r) (hb':Does K .cl b' r') {σ:L2.St} {H:Hp} {Q:VK} (h:T K .cl (chF b b' fa fb fc) σ H Q):tChain r r' (T K ga fa) (T K gb fb) (T K gc fc) σ H Q:=by
  obtain ⟨env,B,Z,d,R,e,k⟩:=h
  obtain ⟨dx,h1,e⟩:=Option.bind_eq_some_iff.mp e
  obtain ⟨dy,h2,e⟩:=Option.bind_eq_some_iff.mp e
  obtain ⟨dz,h3,e⟩:=Option.bind_eq_some_iff.mp e
  refine ⟨env,B,Z,dx,R,h1,fun v Z1 H1 x1 g1=>⟨env,B,Z1,dy,R.ext x1,h2,fun u Z2 H2 x2 g2=>?_⟩⟩
  refine hb x2.zh (g1.later x2) (show Gd K Z2 H2 H2 .pk dy u from g2.pk) h3 fun z Z3 H3 x3 g3=>?_
  cases dz with
  | bl t=>
    refine ⟨t,g3.bl,?_⟩
    cases t with
    | false=>cases e;exact iteF (k _ Z3 H3 ((x1.trans x2).trans x3) rfl)
    | true=>
      obtain ⟨dw,h4,h5⟩:=Option.bind_eq_some_iff.mp e
      refine iteT ⟨env,B,Z3,dw,((R.ext x1).ext x2).ext x3,h4,fun w Z4 H4 x4 g4=>?_⟩
      refine hb' x4.zh (show Gd K Z4 H4 H4 .pk dy u from Gd.later x4 (Gd.later (H3:=H3) x3 g2)) (show Gd K Z4 H4 H4 .pk dw w from g4.pk) h5 fun q Z5 H5 x5 g5=>?_
      exact k q Z5 H5 (((x1.trans x2).trans x3).trans (x4.trans x5)) g5
  | _=>cases e
theorem m_chain {op op':CmpOp} {b b':D→D→Option D} {r1 r2:R2} (ho:OpR X (compareOp op) r1) (ho':OpR X (compareOp op') r2) (hd:Does X.K .cl b r1) (hd':Does X.K .cl b' r2) (ha:PD X ga l fa) (hb:PD X gb r fb) (hc:PD X gc c fc)
    (hm:lastMarks [op,op'] [r,c]=false:=by with_unfolding_all rfl):PD X .cl (.Compare l [op,op'] [r,c] pos) (chF b b' fa fb fc):=PE.imp (pe_chain ho ho' ha hb hc hm) fun _ _ _ h=>ch_pass hd hd' h
theorem b_chain {op op':CmpOp} {b b':D→D→Option D} {r1 r2:R2} (ho:OpR X (compareOp op) r1) (ho':OpR X (compareOp op') r2) (hd:Does X.K .cl b r1) (hd':Does X.K .cl b' r2) (ha:PD X ga l fa) (hb:PD X gb r fb) (hc:PD X gc c fc)
    (hm:lastMarks [op,op'] [r,c]=false:=by with_unfolding_all rfl):PB X (.Compare l [op,op'] [r,c] pos) (fB (chF b b' fa fb fc)):=PT.imp (pt_chain ho ho' ha hb hc hm) fun _ _ _ h=>ch_pass hd hd' (tb_of h)
end
end Mi
namespace Mi
open PySem PySem.Spec PyProof.Rows L2
section
variable {X:Cx} {l r c:Expr} {fa fb fc:Fe} {ga gb gc:Gr} {pos p:Pos}
def idxD:D→D→Option D
  | .lst ds,.int i=>atI ds i
  | .tup ds,.int i=>atI ds i
  | _,_=>none
theorem Reps.atI {K:Fg} {H:Hp} {ds:List D} {vs:List V} {i:Int} {d:D} (h:Reps K H ds vs) (e:L2.atI ds i=some d):∃ v,L2.atI vs i=some v∧Rep K H d v:=by
  unfold L2.atI at e ⊢
  rw [← h.len]
  obtain ⟨j,h1,h2⟩:=Option.bind_eq_some_iff.mp e
  obtain ⟨v,h3,h4⟩:=h.get h2
  exact ⟨v,by rw [h1];exact h3,h4⟩
theorem d_idx {K:Fg}:Does K .cl idxD (fun x y H Q=>rIxL K x y H Q∨rIxT K x y H Q):=fun {Z H x y dx dy d Q} s h1 h2 e k=>by
  cases dx<;>try cases e
  all_goals (cases dy<;>try cases e)
  · rename_i ds i
    obtain ⟨a,vs,rfl,hq,rr⟩:=h1.tup s
    obtain ⟨v,e1,e2⟩:=rr.atI e
    exact .inr ⟨a,vs,i,v,rfl,h2.int,hq,e1,k v Z H (Ex.refl s) e2⟩
  · rename_i ds i
    obtain ⟨a,vs,rfl,hq,rr⟩:=h1.lst s
    obtain ⟨v,e1,e2⟩:=rr.atI e
    exact .inl ⟨a,vs,i,v,rfl,h2.int,hq,e1,k v Z H (Ex.refl s) e2⟩
theorem m_idx (ha:PD X ga l fa) (hb:PD X gb r fb) (hs:PlainIx r:=by intro _ _;rfl):PD X .cl (.Subscript l r pos) (op2 idxD fa fb):=PE.imp (pe_ix (ix_list.or ix_tup) ha hb hs) fun _ _ _ h=>op_pass d_idx h
abbrev Fo:=En→Option (Option Int)
def TOp (K:Fg) (f:Fo):TO:=fun σ H Q=>∃ env B Z o,Rl K B Z H env σ∧f env=some o∧∀ Z' H',Ex Z H Z' H'→Q o H'
def PDo (X:Cx) (e:Option Expr) (f:Fo):Prop:=PO X e (TOp X.K f)
theorem PO.imp {e:Option Expr} {t t':TO} (h:PO X e t) (i:∀ σ H Q,t' σ H Q→t σ H Q):PO X e t':=fun pins s σ H Q I q=>h pins s σ H Q I (i σ H Q q)
def oNone:Fo:=fun _=>some none
def oSome (f:Fe):Fo:=fun env=>(f env).bind fun d=>match d with | .int i=>some (some i) | _=>none
theorem o_none:PDo X none oNone:=PO.imp po_none fun σ H Q ⟨env,B,Z,o,R,e,k⟩=>by cases e;exact k Z H (Ex.refl R.zh)
theorem o_some (h:PD X ga l fa):PDo X (some l) (oSome fa):=PO.imp (po_some h) fun σ H Q hq_=>by
  obtain ⟨env,B,Z,o,R,e,k⟩:=hq_
  obtain ⟨d,h1,h2⟩:=Option.bind_eq_some_iff.mp e
  refine ⟨env,B,Z,d,R,h1,fun v Z' H' x g=>?_⟩
  cases d<;>cases h2
  exact ⟨_,g.int,k Z' H' x⟩
def cutD (ds:List D) (lo hi:Option Int):List D:=(ds.drop (HT.sIx ds.length 0 lo)).take (HT.sIx ds.length ds.length hi-HT.sIx ds.length 0 lo)
theorem Reps.cut {K:Fg} {H:Hp} {ds:List D} {vs:List V} (h:Reps K H ds vs) (lo hi:Option Int):Reps K H (cutD ds lo hi) (cutV vs lo hi):=by
  unfold cutD cutV
  rw [← h.len]
  exact (h.drop _).take _
def slF (b:D→Option Int→Option Int→Option D) (f:Fe) (lo hi:Fo):Fe:=fun env=>(f env).bind fun x=>(lo env).bind fun i=>(hi env).bind fun j=>b x i j
def cutLst:D→Option Int→Option Int→Option D
  | .lst ds,lo,hi=>some (.lst (cutD ds lo hi))
  | _,_,_=>none
variable {lo hi:Option Expr} {fl fh:Fo} {p2:Pos}
theorem m_slL (ha:PD X ga l fa) (hl:PDo X lo fl) (hh:PDo X hi fh):PD X .nw (.Subscript l (.Slice lo hi none p2) pos) (slF cutLst fa fl fh):=PE.imp (pe_slice sl_list ha hl hh) fun σ H Q hq_=>by
  obtain ⟨env,B,Z,d,R,e,k⟩:=hq_
  obtain ⟨x,h1,e⟩:=Option.bind_eq_some_iff.mp e
  obtain ⟨i,h2,e⟩:=Option.bind_eq_some_iff.mp e
  obtain ⟨j,h3,e⟩:=Option.bind_eq_some_iff.mp e
  cases x<;>cases e
  rename_i ds
  refine ⟨env,B,Z,_,R,h1,fun v Z1 H1 x1 g1=>⟨env,B,Z1,i,R.ext x1,h2,fun Z2 H2 x2=>⟨env,B,Z2,j,(R.ext x1).ext x2,h3,fun Z3 H3 x3=>?_⟩⟩⟩
  obtain ⟨a,vs,rfl,hq,rr⟩:=Gd.lst x3.zh (Gd.later (H3:=H3) x3 (Gd.later (H3:=H3) x2 g1))
  refine ⟨a,vs,rfl,hq,fun q hp=>?_⟩
  have x0:=(x1.trans x2).trans x3
  exact k _ Z3 _ (x0.trans (Ex.newL x3.zh hp)) ⟨q,_,_,rfl,rfl,x0.h.free hp,upd_same,x3.zh.free hp,rr.cut i j⟩
def addL:D→D→Option D
  | .lst xs,.lst ys=>if xs.length+ys.length≤16000000 then some (.lst (xs++ys)) else none
  | _,_=>none
theorem size16 {n:Nat} (h:n≤16000000):n≤sizeLine:=by rw [sizeLine_eq];omega
theorem d_addL {K:Fg}:Does K .nw addL (fun x y H Q=>∃ l b xs zs,x=.ref l∧y=.ref b∧SqL K H l xs∧SqL K H b zs∧xs.length+zs.length≤sizeLine∧∀ p,H p=none→Q (.ref p) (upd H p (.lst (xs++zs)))):=fun {Z H x y dx dy d Q} s h1 h2 e k=>by
  cases dx<;>try cases e
  all_goals (cases dy<;>try cases e)
  rename_i xs ys
  obtain ⟨hl,rfl⟩:=ifS e
  · obtain ⟨a,vs,rfl,q1,r1⟩:=h1.lst s
    obtain ⟨b,us,rfl,q2,r2⟩:=h2.lst s
    refine ⟨a,b,vs,us,rfl,rfl,q1,q2,by rw [← r1.len,← r2.len];exact size16 hl,fun p hp=>?_⟩
    exact k _ Z _ (Ex.newL s hp) ⟨p,_,_,rfl,rfl,hp,upd_same,s.free hp,r1.app r2⟩
def Does1 (K:Fg) (g:Gr) (b:D→Option D) (r:List V→Hp→VK→Prop):Prop:=
  ∀ {Z H:Hp} {x:V} {dx d:D} {Q:VK},Same Z H→Gd K Z H H .pk dx x→b dx=some d→(∀ v Z' H',Ex Z H Z' H'→Gd K Z' H H' g d v→Q v H')→r [x] H Q
theorem call1_pass {K:Fg} {g:Gr} {b:D→Option D} {rr:List V→Hp→VK→Prop} (hb:Does1 K g b rr) {σ:L2.St} {H:Hp} {Q:VK} (h:T K g (un1 b fa) σ H Q):tCB rr (tCons (T K ga fa) tNil) σ H Q:=by
  obtain ⟨env,B,Z,d,R,e,k⟩:=h
  obtain ⟨x,h1,h2⟩:=Option.bind_eq_some_iff.mp e
  refine ⟨env,B,Z,x,R,h1,fun v Z1 H1 x1 g1=>?_⟩
  exact hb x1.zh (show Gd K Z1 H1 H1 .pk x v from g1.pk) h2 fun w Z2 H2 x2 g2=>k w Z2 H2 (x1.trans x2) (g2.frm x1.h)
variable {x:Str} {id TT:String} {g:Gr} {b:D→Option D} {rr:List V→Hp→VK→Prop}
theorem m_bi1 (hc:CallR X (.builtin id) rr) (hd:Does1 X.K g b rr) (hv:bootBuiltins x=some (.builtin id)) (hm:X.mg x=none) (ha:PD X ga l fa) (hn:x≠"__name__":=by decide) (hdb:(x==("__debug__":Str))=false:=by decide) (hg:Gl X x:=by rfl)
    (he:starEach [l] X.env=[(false,eval l X.env)]:=by rfl):PD X g (.Call (.Name x p) [l] [] pos) (un1 b fa):=PE.imp (pe_callB hc hg hm hv (pa_cons ha pa_nil he) hn hdb he rfl) fun _ _ _ h=>call1_pass hd h
theorem m_ty1 (hc:CallR X (.type TT) rr) (hd:Does1 X.K g b rr) (hv:bootBuiltins x=some (.type TT)) (hm:X.mg x=none) (ha:PD X ga l fa) (hn:x≠"__name__":=by decide) (hdb:(x==("__debug__":Str))=false:=by decide) (hg:Gl X x:=by rfl)
    (he:starEach [l] X.env=[(false,eval l X.env)]:=by rfl):PD X g (.Call (.Name x p) [l] [] pos) (un1 b fa):=PE.imp (pe_callTy hc hg hm hv (pa_cons ha pa_nil he) hn hdb he rfl) fun _ _ _ h=>call1_pass hd h
def lenD:D→Option D
  | .lst ds=>some (.int ds.length)
  | .tup ds=>some (.int ds.length)
  | _=>none
theorem d_len {K:Fg}:Does1 K .cl lenD (fun xs H Q=>∃ p ys,xs=[.ref p]∧(SqL K H p ys∨SqT K H p ys)∧Q (.int ys.length) H):=fun {Z H x dx d Q} s h e k=>by
  cases dx<;>cases e
  · obtain ⟨a,vs,rfl,q,r⟩:=h.tup s
    exact ⟨a,vs,rfl,.inr q,k _ Z H (Ex.refl s) (by rw [r.len];rfl)⟩
  · obtain ⟨a,vs,rfl,q,r⟩:=h.lst s
    exact ⟨a,vs,rfl,.inl q,k _ Z H (Ex.refl s) (by rw [r.len];rfl)⟩
theorem m_len (hm:X.mg "len"=none) (ha:PD X ga l fa) (hg:Gl X "len":=by rfl) (he:starEach [l] X.env=[(false,eval l X.env)]:=by rfl):PD X .cl (.Call (.Name "len" p) [l] [] pos) (un1 lenD fa):=
  m_bi1 call_len_seq d_len PySem.boot_len hm ha (by decide) (by decide) hg he
def listD:D→Option D
  | .lst ds=>some (.lst ds)
  | .tup ds=>some (.lst ds)
  | _=>none
theorem d_list {K:Fg}:Does1 K .nw listD (fun xs H Q=>∃ p ys,xs=[.ref p]∧(SqL K H p ys∨SqT K H p ys)∧∀ l,H l=none→Q (.ref l) (upd H l (.lst ys))):=fun {Z H x dx d Q} s h e k=>by
  cases dx<;>cases e
  · obtain ⟨a,vs,rfl,q,r⟩:=h.tup s
    exact ⟨a,vs,rfl,.inr q,fun p hp=>k _ Z _ (Ex.newL s hp) ⟨p,_,_,rfl,rfl,hp,upd_same,s.free hp,r⟩⟩
  · obtain ⟨a,vs,rfl,q,r⟩:=h.lst s
    exact ⟨a,vs,rfl,.inl q,fun p hp=>k _ Z _ (Ex.newL s hp) ⟨p,_,_,rfl,rfl,hp,upd_same,s.free hp,r⟩⟩
theorem m_list (hm:X.mg "list"=none) (ha:PD X ga l fa) (hg:Gl X "list":=by rfl) (he:starEach [l] X.env=[(false,eval l X.env)]:=by rfl):PD X .nw (.Call (.Name "list" p) [l] [] pos) (un1 listD fa):=
  m_ty1 call_list_of d_list PyProof.Rows.boot_list hm ha (by decide) (by decide) hg he
def intD:D→Option D
  | .int i=>some (.int i)
  | .bl b=>some (.int (if b then 1 else 0))
  | _=>none
theorem d_int {K:Fg}:Does1 K .cl intD (fun xs H Q=>(∃ i,xs=[.int i]∧Q (.int i) H)∨∃ k,xs=[.bl k]∧Q (.int (if k then 1 else 0)) H):=fun {Z H x dx d Q} s h e k=>by
  cases dx<;>cases e
  · cases h.bl;exact .inr ⟨_,rfl,k _ Z H (Ex.refl s) rfl⟩
  · cases h.int;exact .inl ⟨_,rfl,k _ Z H (Ex.refl s) rfl⟩
theorem m_intc (hm:X.mg "int"=none) (ha:PD X ga l fa) (hg:Gl X "int":=by rfl) (he:starEach [l] X.env=[(false,eval l X.env)]:=by rfl):PD X .cl (.Call (.Name "int" p) [l] [] pos) (un1 intD fa):=
  m_ty1 call_int1 d_int PyProof.Rows.boot_int hm ha (by decide) (by decide) hg he
def Does2 (K:Fg) (g:Gr) (b:D→D→Option D) (r:List V→Hp→VK→Prop):Prop:=Does K g b (fun x y H Q=>r [x,y] H Q)
theorem call2_pass {K:Fg} {g:Gr} {b:D→D→Option D} {rr:List V→Hp→VK→Prop} (hb:Does2 K g b rr) {σ:L2.St} {H:Hp} {Q:VK} (h:T K g (op2 b fa fb) σ H Q):tCB rr (tCons (T K ga fa) (tCons (T K gb fb) tNil)) σ H Q:=op_pass (r:=fun x y H Q=>rr [x,y] H Q) hb h
variable {b2:D→D→Option D}
theorem m_bi2 (hc:CallR X (.builtin id) rr) (hd:Does2 X.K g b2 rr) (hv:bootBuiltins x=some (.builtin id)) (hm:X.mg x=none) (ha:PD X ga l fa) (hb:PD X gb r fb) (hn:x≠"__name__":=by decide) (hdb:(x==("__debug__":Str))=false:=by decide) (hg:Gl X x:=by rfl)
    (he:starEach [l,r] X.env=(false,eval l X.env)::starEach [r] X.env:=by rfl) (he2:starEach [r] X.env=[(false,eval r X.env)]:=by rfl) (hpl:(backTo pos (starEach [r] X.env)).any (·.1)=false:=by rfl):PD X g (.Call (.Name x p) [l,r] [] pos) (op2 b2 fa fb):=
  PE.imp (pe_callB hc hg hm hv (pa_cons ha (pa_cons hb pa_nil he2) he) hn hdb he hpl) fun _ _ _ h=>call2_pass hd h
abbrev minI:=iF fun i j=>.int (if j<i then j else i)
theorem d_min {K:Fg}:Does2 K .cl minI (fun xs H Q=>∃ i j,xs=[.int i,.int j]∧Q (.int (if j<i then j else i)) H):=fun {Z H x y dx dy d Q} s h1 h2 e k=>by
  cases dx<;>try cases e
  all_goals (cases dy<;>cases e)
  cases h1.int;cases h2.int
  exact ⟨_,_,rfl,k _ Z H (Ex.refl s) rfl⟩
theorem m_min (hm:X.mg "min"=none) (hcalm:X.calm=true) (ha:PD X ga l fa) (hb:PD X gb r fb) (hg:Gl X "min":=by rfl) (he:starEach [l,r] X.env=(false,eval l X.env)::starEach [r] X.env:=by rfl) (he2:starEach [r] X.env=[(false,eval r X.env)]:=by rfl) (hpl:(backTo pos (starEach [r] X.env)).any (·.1)=false:=by rfl) :
    PD X .cl (.Call (.Name "min" p) [l,r] [] pos) (op2 minI fa fb):=m_bi2 (call_min2 hcalm) d_min PyProof.Rows.boot_min hm ha hb (by decide) (by decide) hg he he2 hpl
def spD (K:Fg) (n:Nat) (g:Gr) (m:List D→Option D):Sp:=fun vs H Q _=>∃ Z ds d,ds.length=n∧Same Z H∧Reps K Z ds vs∧m ds=some d∧∀ v Z' H',Ex Z H Z' H'→Gd K Z' H H' g d v→Q v H'
structure Cal (P:Program) (w:World) (K:Fg) (mg:Str→Option Value) (base:Heap) (k:Nat) (x:Str) (n:Nat) (g:Gr) (m:List D→Option D):Prop where
  ex:∃ f fd ps,ps.length=n∧FnOk P w K mg base CX0 k f fd ps (spD K n g m)∧mg x=some (.ref f)∧PySem.W.keepIn K (.ref f)=true∧Binds K fd ps []
variable {m:List D→Option D} {k n:Nat} {es:List Expr} {fs:Fes}
theorem m_call (C:Cal X.prog X.w X.K X.mg X.base k x n g m) (hr:Room k X.A) (hl:PL X (l::es) fs) (hn:(l::es).length=n:=by rfl) (hg:Gl X x:=by rfl) (hdb:(x==("__debug__":Str))=false:=by decide)
    (he:starEach (l::es) X.env=(false,eval l X.env)::starEach es X.env:=by rfl) (hpl:(backTo pos (starEach es X.env)).any (·.1)=false:=by rfl):PD X g (.Call (.Name x p) (l::es) [] pos) (fun env=>(fs env).bind m):=by
  obtain ⟨f,fd,ps,hps,F,hm,hk,hb⟩:=C.ex
  refine PE.imp (pe_call F hr hg hm hk hb .nil pass0 hl.p hdb he hpl) fun σ H Q hq_=>?_
  obtain ⟨env,B,Z,d,R,e,kk⟩:=hq_
  obtain ⟨ds,h1,h2⟩:=Option.bind_eq_some_iff.mp e
  refine ⟨env,B,Z,ds,R,h1,fun vs Z1 H1 x1 r=>?_⟩
  show spD X.K n g m (vs++[]) H1 Q E0
  rw [List.append_nil]
  exact ⟨Z1,ds,d,by rw [hl.l env ds h1];exact hn,x1.zh,r,h2,fun v Z' H' x2 g2=>kk v Z' H' (x1.trans x2) (g2.frm x1.h)⟩
end
end Mi
namespace Mi
open PySem PySem.Spec PyProof.Rows L2
inductive Out where
  | nx (env:En) | rt (d:D) | bk (env:En) | ct (env:En)
abbrev Fs:=En→Option Out
def EndOk (K:Fg) (rg:Gr) (B Z:Hp) (E:Ends):Out→Prop
  | .nx env'=>∀ σ' Z' H',Ex Z B Z' H'→Rl K B Z' H' env' σ'→E.nx σ' H'
  | .bk env'=>∀ σ' Z' H',Ex Z B Z' H'→Rl K B Z' H' env' σ'→E.bk σ' H'
  | .ct env'=>∀ σ' Z' H',Ex Z B Z' H'→Rl K B Z' H' env' σ'→E.ct σ' H'
  | .rt d=>∀ v Z' H',Ex Z B Z' H'→Gd K Z' B H' rg d v→E.rt v H'
def TSt (K:Fg) (rg:Gr) (f:Fs):TS:=fun E σ H=>∃ env B Z o,Rl K B Z H env σ∧f env=some o∧EndOk K rg B Z E o
def SD (X:Cx) (rg:Gr) (st:Stmt) (f:Fs):Prop:=PS X st (TSt X.K rg f)
def SsD (X:Cx) (rg:Gr) (st:List Stmt) (f:Fs):Prop:=PSs X st (TSt X.K rg f)
section
variable {X:Cx} {rg:Gr} {st:Stmt} {sts:List Stmt} {f g:Fs} {pos:Pos}
theorem PS.imp {t t':TS} (h:PS X st t) (i:∀ E σ H,t' E σ H→t E σ H):PS X st t':=fun pins s σ H E I q=>h pins s σ H E I (i E σ H q)
theorem PSs.imp {t t':TS} (h:PSs X sts t) (i:∀ E σ H,t' E σ H→t E σ H):PSs X sts t':=fun pins s σ H E I q=>h pins s σ H E I (i E σ H q)
theorem EndOk.later {K:Fg} {B Z Z1 H1:Hp} {E:Ends} {o:Out} (x:Ex Z B Z1 H1) (h:EndOk K rg B Z E o):EndOk K rg B Z1 E o:=by
  cases o with
  | nx e=>exact fun σ' Z' H' y=>h σ' Z' H' (x.transB y)
  | bk e=>exact fun σ' Z' H' y=>h σ' Z' H' (x.transB y)
  | ct e=>exact fun σ' Z' H' y=>h σ' Z' H' (x.transB y)
  | rt e=>exact fun v Z' H' y=>h v Z' H' (x.transB y)
def nxF:Fs:=fun env=>some (.nx env)
def seqF (f g:Fs):Fs:=fun env=>(f env).bind fun o=>match o with | .nx e=>g e | o=>some o
theorem s_nil:SsD X rg [] nxF:=PSs.imp pss_nil fun E σ H ⟨env,B,Z,o,R,e,k⟩=>by cases e;exact k σ Z H ⟨R.bh,Same.refl _,R.zh,fun _ _ h=>h⟩ R
theorem s_cons (h1:SD X rg st f) (h2:SsD X rg sts g):SsD X rg (st::sts) (seqF f g):=PSs.imp (pss_cons h1 h2) fun E σ H hq_=>by
  obtain ⟨env,B,Z,o,R,e,k⟩:=hq_
  obtain ⟨o1,e1,e2⟩:=Option.bind_eq_some_iff.mp e
  refine ⟨env,B,Z,o1,R,e1,?_⟩
  cases o1 with
  | nx env1=>exact fun σ' Z' H' x R'=>⟨env1,B,Z',o,R',e2,k.later x⟩
  | rt d=>cases e2;exact k
  | bk d=>cases e2;exact k
  | ct d=>cases e2;exact k
theorem s_one (h1:SD X rg st f):SsD X rg [st] f:=pss_one h1
def retF (f:Fe):Fs:=fun env=>(f env).bind fun d=>some (.rt d)
theorem s_ret {e:Expr} {f:Fe} (h:PD X rg e f):SD X rg (.Return (some e) pos) (retF f):=PS.imp (ps_ret h) fun E σ H hq_=>by
  obtain ⟨env,B,Z,o,R,e,k⟩:=hq_
  obtain ⟨d,e1,e2⟩:=Option.bind_eq_some_iff.mp e
  cases e2
  exact ⟨env,B,Z,d,R,e1,fun v Z' H' x g=>k v Z' H' (x.part R.bh) (g.frm R.bh)⟩
def retO (i:Nat):Fs:=fun env=>match env[i]? with
  | some (.O (.L ds))=>some (.rt (.lst ds))
  | _=>none
theorem s_retO (i:Nat) {x:Str} {p:Pos} (hN:X.N[i]?=some x:=by rfl) (hv:Vis X.env.scope x:=by first | exact Or.inl rfl | exact Or.inr (Or.inl rfl) | exact Or.inr (Or.inr rfl)) (hd:(x==("__debug__":Str))=false:=by decide)
    (hcd:(x==("__classdict__":Str))=false:=by decide):SD X .nw (.Return (some (.Name x p)) pos) (retO i):=PS.imp (ps_ret (pe_var hN hv hd hcd)) fun E σ H hq_=>by
  obtain ⟨env,B,Z,o,R,e,k⟩:=hq_
  unfold retO at e
  split at e
  · rename_i ds hi
    cases e
    obtain ⟨y,e1,a,o,e2,e3,e4,vs,rfl,r⟩:=R.sl i _ hi
    subst e2
    exact ⟨_,e1,k _ Z H ⟨R.bh,Same.refl _,R.zh,fun _ _ h=>h⟩ ⟨a,vs,ds,rfl,rfl,R.ob i _ a hi e1,e3,e4,r⟩⟩
  · cases e
def ifF (t:Fb) (f g:Fs):Fs:=fun env=>(t env).bind fun b=>if b=true then f env else g env
theorem s_if {c:Expr} {a b:List Stmt} {t:Fb} (hc:PB X c t) (ha:SsD X rg a f) (hb:SsD X rg b g):SD X rg (.If c a b pos) (ifF t f g):=PS.imp (ps_if hc ha hb) fun E σ H hq_=>by
  obtain ⟨env,B,Z,o,R,e,k⟩:=hq_
  obtain ⟨x,e1,e2⟩:=Option.bind_eq_some_iff.mp e
  refine ⟨env,B,Z,x,R,e1,fun Z1 H1 x1=>?_⟩
  cases x with
  | true=>rw [if_pos rfl] at e2;exact iteT ⟨env,B,Z1,o,R.ext x1,e2,k.later (x1.part R.bh)⟩
  | false=>rw [if_neg (by simp)] at e2;exact iteF ⟨env,B,Z1,o,R.ext x1,e2,k.later (x1.part R.bh)⟩
def setF (i:Nat) (f:Fe):Fs:=fun env=>(f env).bind fun d=>some (.nx (env.set i (.F d)))
def setO (i:Nat) (f:Fe):Fs:=fun env=>(f env).bind fun d=>match d with | .lst ds=>some (.nx (env.set i (.O (.L ds)))) | _=>none
theorem set_pass {f:Fe} {i:Nat} {E:Ends} {σ:L2.St} {H:Hp} (h:TSt X.K rg (setF i f) E σ H):tAsg (T X.K .cl f) (gName i) E σ H:=by
  obtain ⟨env,B,Z,o,R,e,k⟩:=h
  obtain ⟨d,e1,e2⟩:=Option.bind_eq_some_iff.mp e
  cases e2
  exact ⟨env,B,Z,d,R,e1,fun v Z' H' x g=>k _ Z' H' (x.part R.bh) ((R.ext x).setF i g)⟩
theorem setO_pass {f:Fe} {i:Nat} {E:Ends} {σ:L2.St} {H:Hp} (h:TSt X.K rg (setO i f) E σ H):tAsg (T X.K .nw f) (gName i) E σ H:=by
  obtain ⟨env,B,Z,o,R,e,k⟩:=h
  obtain ⟨d,e1,e2⟩:=Option.bind_eq_some_iff.mp e
  cases d<;>cases e2
  rename_i ds
  refine ⟨env,B,Z,_,R,e1,fun v Z' H' x g=>?_⟩
  obtain ⟨a,vs,ds',rfl,e3,h1,h2,h3,r⟩:=g
  cases e3
  refine k _ Z' H' (x.part R.bh) ((R.ext x).setO i (R.bh.free h1) h3 h2 ⟨vs,rfl,r⟩ fun j es hj hje hja=>?_)
  obtain ⟨y,e4,b,us,e5,e6,_⟩:=R.sl j _ hje
  rw [hja] at e4;cases e4;cases e5
  rw [h1] at e6;cases e6
section
variable {x:Str} {e:Expr} {fe:Fe} {pos':Pos}
theorem s_set (i:Nat) (he:PD X .cl e fe) (hN:X.N.Nodup) (hi:X.N[i]?=some x:=by rfl) (hx:Loc X.env.scope x:=by first | exact Or.inl rfl | exact Or.inr rfl) (hs:swapsWith e (some (.Name x pos')) pos.line X.env=pure false:=by rfl)
    (hf:X.fn x=true∨X.env.scope.names.lookup x=some .local:=by first | exact .inl rfl | exact .inr rfl | assumption):SD X rg (.Assign [.Name x pos'] e pos) (setF i fe):=PS.imp (ps_set hN hi hx he hs hf) fun E σ H h=>set_pass h
theorem s_setO (i:Nat) (he:PD X .nw e fe) (hN:X.N.Nodup) (hi:X.N[i]?=some x:=by rfl) (hx:Loc X.env.scope x:=by first | exact Or.inl rfl | exact Or.inr rfl) (hs:swapsWith e (some (.Name x pos')) pos.line X.env=pure false:=by rfl)
    (hf:X.fn x=true∨X.env.scope.names.lookup x=some .local:=by first | exact .inl rfl | exact .inr rfl | assumption):SD X rg (.Assign [.Name x pos'] e pos) (setO i fe):=PS.imp (ps_set hN hi hx he hs hf) fun E σ H h=>setO_pass h
end
def appF (i:Nat) (f:Fe):Fs:=fun env=>match env[i]? with
  | some (.O (.L ds))=>(f env).bind fun d=>if ds.length<16000000 then some (.nx (env.set i (.O (.L (ds++[d]))))) else none
  | _=>none
theorem s_app (i:Nat) {x:Str} {e:Expr} {fe:Fe} {px apos cpos:Pos} (he:PD X .cl e fe) (hN:X.N[i]?=some x:=by rfl) (hv:Vis X.env.scope x:=by first | exact Or.inl rfl | exact Or.inr (Or.inl rfl) | exact Or.inr (Or.inr rfl))
    (hd:(x==("__debug__":Str))=false:=by decide) (hcd:(x==("__classdict__":Str))=false:=by decide) (hst:starEach [e] X.env=[(false,eval e X.env)]:=by rfl)
    (hbase:attributeBase (.Name x px) "append" X.env (eval (.Name x px) X.env)=eval (.Name x px) X.env:=by rfl)
    (hfew:((backTo cpos (starEach [e] X.env)).all (fun x=>!x.1)&&(backToKw cpos (keywordEach [] X.env)).all (fun x=>x.1.isSome)
      && decide (([e]:List Expr).length+([]:List Keyword).length+(if ([]:List Keyword).isEmpty then 0 else 1)<30))=true:=by rfl)
    (hline:(apos.endLine==cpos.line)=true:=by rfl)
    (hs:swapsWith (.Call (.Attribute (.Name x px) "append" apos) [e] [] cpos) none pos.line X.env=pure false:=by rfl) :
    SD X rg (.Expr (.Call (.Attribute (.Name x px) "append" apos) [e] [] cpos) pos) (appF i fe):=by
  refine PS.imp (ps_expr (pe_bm PySem.F.plainAttrs_list PySem.F.slot_list_append PySem.F.type_list_append mt_append (pe_var hN hv hd hcd) (pa_cons he pa_nil hst) hbase hfew hline hst rfl) hs) fun E σ H hq_=>?_
  obtain ⟨env,B,Z,o,R,e,k⟩:=hq_
  unfold appF at e
  split at e
  · rename_i ds hi
    obtain ⟨d,e1,e2⟩:=Option.bind_eq_some_iff.mp e
    obtain ⟨hl,rfl⟩:=ifS e2
    · obtain ⟨y,e3,a,o,e4,e5,e6,vs,rfl,r⟩:=R.sl i _ hi
      subst e4
      refine ⟨_,e3,.inl ⟨rfl,vs,SqL.of e5⟩,env,B,Z,d,R,e1,fun v Z1 H1 x1 g1=>?_⟩
      have R1:=R.ext x1
      have r1:=Reps.mono x1.z ds r
      have ha:=x1.h _ _ e5
      refine ⟨a,vs,v,rfl,rfl,ha,by rw [← r.len,sizeLine_eq];omega,?_⟩
      obtain ⟨R2,x2⟩:=R1.wr hi e3 (OwnOk.l (r1.app (Reps.one g1)))
      exact k σ Z1 _ ((x1.part R.bh).transB x2) R2
  · cases e
end
end Mi
namespace Mi
open PySem PySem.Spec PyProof.Rows L2
abbrev Ft:=D→En→Option En
def TGt (K:Fg) (t:Ft):TG:=fun v σ H Q=>∃ env B Z d env',Rl K B Z H env σ∧Rep K Z d v∧t d env=some env'∧∀ σ',Rl K B Z H env' σ'→Q σ' H
def GD (X:Cx) (tg:Expr) (t:Ft):Prop:=PG X tg (TGt X.K t)
section
variable {X:Cx} {rg:Gr}
theorem PG.imp {e:Expr} {t t':TG} (h:PG X e t) (i:∀ v σ H Q,t' v σ H Q→t v σ H Q):PG X e t':=fun pins s σ H v u Q I r q=>h pins s σ H v u Q I r (i v σ H Q q)
def tgN (i:Nat):Ft:=fun d env=>some (env.set i (.F d))
theorem g_name (i:Nat) {x:Str} {pos:Pos} (hN:X.N.Nodup) (hi:X.N[i]?=some x:=by rfl) (hx:Loc X.env.scope x:=by first | exact Or.inl rfl | exact Or.inr rfl)
    (hf:X.fn x=true∨X.env.scope.names.lookup x=some .local:=by first | exact .inl rfl | exact .inr rfl | assumption):GD X (.Name x pos) (tgN i):=PG.imp (pg_name hN hi hx hf) fun v σ H Q hq_=>by
  obtain ⟨env,B,Z,d,env',R,r,e,k⟩:=hq_
  cases e
  exact k _ (R.setF i r)
def setAll:List Nat→List D→En→Option En
  | [],[],env=>some env
  | i::is,d::ds,env=>setAll is ds (env.set i (.F d))
  | _,_,_=>none
def TGs1 (K:Fg) (is:List Nat):TGs:=fun vs σ H Q=>∃ env B Z ds env',Rl K B Z H env σ∧Reps K Z ds vs∧setAll is ds env=some env'∧∀ σ',Rl K B Z H env' σ'→Q σ' H
def GsD (X:Cx) (tgs:List Expr) (is:List Nat):Prop:=PGs X tgs (TGs1 X.K is)
theorem PGs.imp {e:List Expr} {t t':TGs} (h:PGs X e t) (i:∀ v σ H Q,t' v σ H Q→t v σ H Q):PGs X e t':=fun pins s σ H v u Q I r q=>h pins s σ H v u Q I r (i v σ H Q q)
theorem gs_nil:GsD X [] []:=PGs.imp pgs_nil fun v σ H Q hq_=>by
  obtain ⟨env,B,Z,ds,env',R,r,e,k⟩:=hq_
  cases ds with
  | nil=>cases e;exact ⟨r,k _ R⟩
  | cons d ds=>cases e
theorem gs_cons (i:Nat) {x:Str} {pos:Pos} {tgs:List Expr} {is:List Nat} (hN:X.N.Nodup) (h:GsD X tgs is) (hi:X.N[i]?=some x:=by rfl) (hx:Loc X.env.scope x:=by first | exact Or.inl rfl | exact Or.inr rfl)
    (hf:X.fn x=true∨X.env.scope.names.lookup x=some .local:=by first | exact .inl rfl | exact .inr rfl | assumption)
    (hs:(assignEach (.Name x pos::tgs) X.env).map (·.2)=assign (.Name x pos) X.env::(assignEach tgs X.env).map (·.2):=by rfl):GsD X (.Name x pos::tgs) (i::is):=PGs.imp (pgs_cons (pg_name hN hi hx hf) h hs) fun v σ H Q hq_=>by
  obtain ⟨env,B,Z,ds,env',R,r,e,k⟩:=hq_
  cases ds with
  | nil=>cases e
  | cons d ds=>
    obtain ⟨w,rr,e1,r1,r2⟩:=r
    exact ⟨w,rr,e1,env.set i (.F d),B,Z,ds,env',R.setF i r1,r2,e,k⟩
def tgT (is:List Nat):Ft:=fun d env=>match d with
  | .tup ds=>setAll is ds env
  | _=>none
theorem setAll_len:∀ {is:List Nat} {ds:List D} {env env':En},setAll is ds env=some env'→ds.length=is.length
  | [],[],_,_,_=>rfl
  | i::is,d::ds,_,_,h=>by simp [setAll_len (is:=is) (ds:=ds) h]
  | [],_::_,_,_,h=>by cases h
  | _::_,[],_,_,h=>by cases h
theorem g_tup {es:List Expr} {is:List Nat} {k:Nat} {pos:Pos} (hc:X.calm=true) (h:GsD X es is) (hn:(assignEach es X.env).length=is.length:=by rfl) (hst:(assignEach es X.env).findIdx? (·.1)=none:=by rfl):GD X (.Tuple es k pos) (tgT is):=
  PG.imp (pg_tup hc h hn hst) fun v σ H Q hq_=>by
    obtain ⟨env,B,Z,d,env',R,r,e,k⟩:=hq_
    cases d<;>try cases e
    rename_i ds
    obtain ⟨a,vs,e1,hq,rr⟩:=r
    exact ⟨a,vs,e1,sameT R.zh hq,by rw [← rr.len];exact setAll_len e,env,B,Z,ds,env',R,rr,e,k⟩
def loopF (t:Ft) (body:Fs):List D→Fs
  | [],env=>some (.nx env)
  | d::ds,env=>(t d env).bind fun e1=>(body e1).bind fun o=>match o with
    | .nx e2=>loopF t body ds e2
    | .ct e2=>loopF t body ds e2
    | .bk e2=>some (.nx e2)
    | .rt d=>some (.rt d)
abbrev Fi:=En→Option (List D)
def Walk (K:Fg) (Z1:Hp) (ds:List D) (J:It):Prop:=∀ (Z' H':Hp),Same Z1 Z'→Same Z' H'→∀ i,
  (i<ds.length→J.go i H'∧∀ x H'',J.yld i H' x H''→∃ Z'' d,Ex Z' H' Z'' H''∧ds[i]?=some d∧Rep K Z'' d x)∧(ds.length≤i→J.stop i H')
def TIt (K:Fg) (f:Fi):TI:=fun σ H R=>∃ env B Z ds,Rl K B Z H env σ∧f env=some ds∧∀ J Z1 H1,Ex Z H Z1 H1→Walk K Z1 ds J→R J H1
def ID (X:Cx) (tg iter:Expr) (f:Fi):Prop:=PI X tg iter (TIt X.K f)
theorem PI.imp {tg e:Expr} {t t':TI} (h:PI X tg e t) (i:∀ σ H R,t' σ H R→t σ H R):PI X tg e t':=fun pins s σ H R I q=>h pins s σ H R I (i σ H R q)
def itL (f:Fe):Fi:=fun env=>(f env).bind fun d=>match d with | .lst ds=>some ds | _=>none
def itT (f:Fe):Fi:=fun env=>(f env).bind fun d=>match d with | .tup ds=>some ds | _=>none
theorem walk_list {K:Fg} {Z1:Hp} {a:Addr} {vs:List V} {ds:List D} (q:SqL K Z1 a vs) (rr:Reps K Z1 ds vs):Walk K Z1 ds (Itl K a):=fun Z' H' s1 s2 i=>by
  have q':=(s1.trans s2).seq q
  refine ⟨fun hi=>⟨⟨vs,vs[i]'(by rw [← rr.len];exact hi),q',by simp [← rr.len,hi]⟩,fun x H'' y=>?_⟩,fun hi=>⟨vs,q',by rw [← rr.len];exact hi⟩⟩
  obtain ⟨e,y⟩:=y
  obtain ⟨d,h1,h2⟩:=rr.getV (y vs q')
  subst e
  exact ⟨Z',d,Ex.refl s2,h1,Rep.mono s1 d h2⟩
theorem walk_tup {K:Fg} {Z1:Hp} {a:Addr} {vs:List V} {ds:List D} (q:SqT K Z1 a vs) (rr:Reps K Z1 ds vs):Walk K Z1 ds (Itt K a):=fun Z' H' s1 s2 i=>by
  have q':=sameT (s1.trans s2) q
  refine ⟨fun hi=>⟨⟨vs,vs[i]'(by rw [← rr.len];exact hi),q',by simp [← rr.len,hi]⟩,fun x H'' y=>?_⟩,fun hi=>⟨vs,q',by rw [← rr.len];exact hi⟩⟩
  obtain ⟨e,y⟩:=y
  obtain ⟨d,h1,h2⟩:=rr.getV (y vs q')
  subst e
  exact ⟨Z',d,Ex.refl s2,h1,Rep.mono s1 d h2⟩
theorem i_list {tg l:Expr} {f:Fe} (h:PD X .cl l f):ID X tg l (itL f):=PI.imp (pi_list h) fun σ H R hq_=>by
  obtain ⟨env,B,Z,ds,Rr,e,k⟩:=hq_
  obtain ⟨d,e1,e2⟩:=Option.bind_eq_some_iff.mp e
  cases d<;>cases e2
  refine ⟨env,B,Z,_,Rr,e1,fun v Z1 H1 x1 g1=>?_⟩
  obtain ⟨a,vs,e,q,r⟩:=g1
  exact ⟨a,e,⟨vs,x1.zh.seq q⟩,k _ Z1 H1 x1 (walk_list q r)⟩
theorem i_tup {tg l:Expr} {f:Fe} (h:PD X .cl l f):ID X tg l (itT f):=PI.imp (pi_tup h) fun σ H R hq_=>by
  obtain ⟨env,B,Z,ds,Rr,e,k⟩:=hq_
  obtain ⟨d,e1,e2⟩:=Option.bind_eq_some_iff.mp e
  cases d<;>cases e2
  refine ⟨env,B,Z,_,Rr,e1,fun v Z1 H1 x1 g1=>?_⟩
  obtain ⟨a,vs,e,q,r⟩:=g1
  exact ⟨a,e,⟨vs,sameT x1.zh q⟩,k _ Z1 H1 x1 (walk_tup q r)⟩
def rangeL (lo:Int) (n:Nat):List D:=(List.range n).map fun i=>.int (lo+(i:Nat))
theorem walk_rng {K:Fg} {Z1:Hp} (lo:Int) (n:Nat):Walk K Z1 (rangeL lo n) (Itr lo n):=fun Z' H' s1 s2 i=>by
  have hl:(rangeL lo n).length=n:=by simp [rangeL]
  rw [hl]
  refine ⟨fun hi=>⟨hi,fun x H'' y=>?_⟩,fun h=>h⟩
  obtain ⟨e,y⟩:=y
  subst e
  subst y
  exact ⟨Z',.int (lo+i),Ex.refl s2,by simp [rangeL,hi],rfl⟩
def rngOk (j:Int):Bool:=decide (-4000000000000000000<j∧j<4000000000000000000)
def itR1 (f:Fe):Fi:=fun env=>(f env).bind fun d=>match d with
  | .int j=>if rngOk j then some (rangeL 0 j.toNat) else none
  | _=>none
theorem i_range1 {tg l:Expr} {f:Fe} {ga:Gr} {p pos:Pos} (hm:X.mg "range"=none) (h:PD X ga l f) (hg:Gl X "range":=by rfl) (hs:starEach [l] X.env=[(false,eval l X.env)]:=by rfl):ID X tg (.Call (.Name "range" p) [l] [] pos) (itR1 f):=
  PI.imp (pi_range1 hg hm (pa_cons h pa_nil hs) hs) fun σ H R hq_=>by
    obtain ⟨env,B,Z,ds,Rr,e,k⟩:=hq_
    obtain ⟨d,e1,e2⟩:=Option.bind_eq_some_iff.mp e
    cases d<;>try cases e2
    rename_i j
    obtain ⟨hj,rfl⟩:=ifS e2
    · have hj':=of_decide_eq_true hj
      refine ⟨env,B,Z,_,Rr,e1,fun v Z1 H1 x1 g1=>⟨j,by rw [g1.int],by omega,by omega,k _ Z1 H1 x1 (walk_rng 0 j.toNat)⟩⟩
def forF (fi:Fi) (t:Ft) (body:Fs):Fs:=fun env=>(fi env).bind fun ds=>loopF t body ds env
theorem s_for {tg iter:Expr} {body:List Stmt} {fi:Fi} {t:Ft} {fb:Fs} {pos:Pos} (hp:PassesOwn (model X.prog X.w) X.A X.env X.xe) (hc:X.calm=true) (hi:ID X tg iter fi) (hg:GD X tg t) (hb:SsD X rg body fb)
    (hs:∀ x,foldedSetIterable iter X.env x=pure x:=by intro _;rfl):SD X rg (.For tg iter body [] pos) (forF fi t fb):=PS.imp (ps_for hp hc hi hg hb hs) fun E σ H hq_=>by
  obtain ⟨env,B,Z,o,R,e,k⟩:=hq_
  obtain ⟨ds,e1,e2⟩:=Option.bind_eq_some_iff.mp e
  refine ⟨env,B,Z,ds,R,e1,fun J Z1 H1 x1 wk=>?_⟩
  let In:Nat→L2.St→Hp→Prop:=fun i σ H=>∃ env' Z',Ex Z B Z' H∧Same Z1 Z'∧Rl X.K B Z' H env' σ∧loopF t fb (ds.drop i) env'=some o
  refine ⟨fun i m σ H=>m=ds.length-i∧i≤ds.length∧In i σ H,⟨ds.length,by simp,Nat.zero_le _,env,Z1,x1.part R.bh,Same.refl _,R.ext x1,by simpa using e2⟩,?_⟩
  rintro i m σ2 H2 ⟨rfl,hi,env',Z',x2,s2,R2,e3⟩
  obtain ⟨w1,w2⟩:=wk Z' H2 s2 R2.zh i
  by_cases hlt:i<ds.length
  · obtain ⟨go,yl⟩:=w1 hlt
    refine .inr ⟨go,In (i+1),fun σ' H' n=>⟨ds.length-(i+1),by omega,rfl,hlt,n⟩,fun x H3 y=>?_⟩
    obtain ⟨Z3,d,x3,hd,r3⟩:=yl x H3 y
    have hdr:ds.drop i=d::ds.drop (i+1):=by
      obtain ⟨h1,h2⟩:=List.getElem?_eq_some_iff.mp hd
      rw [List.drop_eq_getElem_cons h1,h2]
    rw [hdr] at e3
    unfold loopF at e3
    obtain ⟨en1,e4,e5⟩:=Option.bind_eq_some_iff.mp e3
    obtain ⟨o1,e6,e7⟩:=Option.bind_eq_some_iff.mp e5
    have R3:=R2.ext x3
    have x4:=x2.transB (x3.part R2.bh)
    refine ⟨env',B,Z3,d,en1,R3,r3,e4,fun σ4 R4=>⟨en1,B,Z3,o1,R4,e6,?_⟩⟩
    cases o1 with
    | nx en2=>exact fun σ5 Z5 H5 x5 R5=>⟨en2,Z5,x4.transB x5,(s2.trans x3.z).trans x5.z,R5,e7⟩
    | ct en2=>exact fun σ5 Z5 H5 x5 R5=>⟨en2,Z5,x4.transB x5,(s2.trans x3.z).trans x5.z,R5,e7⟩
    | bk en2=>cases e7;exact fun σ5 Z5 H5 x5 R5=>k σ5 Z5 H5 (x4.transB x5) R5
    | rt d=>cases e7;exact fun v Z5 H5 x5 g5=>k v Z5 H5 (x4.transB x5) g5
  · refine .inl ⟨w2 (by omega),?_⟩
    rw [List.drop_eq_nil_of_le (by omega)] at e3
    cases e3
    exact k σ2 Z' H2 x2 R2
def unF (is:List Nat) (f:Fe):Fs:=fun env=>(f env).bind fun d=>(tgT is d env).bind fun e=>some (.nx e)
theorem s_un {e:Expr} {es:List Expr} {is:List Nat} {fe:Fe} {k:Nat} {pos p2:Pos} (hc:X.calm=true) (he:PD X .cl e fe) (h:GsD X es is) (hn:(assignEach es X.env).length=is.length:=by rfl) (hst:(assignEach es X.env).findIdx? (·.1)=none:=by rfl)
    (hs:swapsWithSole [.Tuple es k p2] e pos.line X.env=pure false:=by rfl) (hw:swappedStores [.Tuple es k p2] e X.env=pure none:=by rfl) (h1:(assignEach [.Tuple es k p2] X.env).map (·.2)=[assign (.Tuple es k p2) X.env]:=by rfl) :
    SD X rg (.Assign [.Tuple es k p2] e pos) (unF is fe):=PS.imp (ps_asg he (g_tup hc h hn hst) hs hw h1) fun E σ H hq_=>by
  obtain ⟨env,B,Z,o,R,e,k⟩:=hq_
  obtain ⟨d,e1,e⟩:=Option.bind_eq_some_iff.mp e
  obtain ⟨en,e2,e⟩:=Option.bind_eq_some_iff.mp e
  cases e
  refine ⟨env,B,Z,d,R,e1,fun v Z1 H1 x1 g1=>⟨env,B,Z1,d,en,R.ext x1,g1,e2,fun σ' R'=>k σ' Z1 H1 (x1.part R.bh) R'⟩⟩
def startE (n:Nat) (ds:List D):En:=ds.map .F++List.replicate (n-ds.length) .un
def runF (f:Fs) (n:Nat) (ds:List D):Option D:=(f (startE n ds)).bind fun o=>match o with | .rt d=>some d | _=>none
theorem Rl.start {K:Fg} {Z H:Hp} {N:List Str} {ds:List D} {vs:List V} (s:Same Z H) (r:Reps K Z ds vs):Rl K H Z H (startE N.length ds) (start N vs):=by
  have hl:=r.len
  have noO:∀ (i:Nat) (es:Own),(startE N.length ds)[i]?≠some (.O es):=fun i es h=>by
    unfold startE at h
    by_cases hi:i<ds.length
    · rw [List.getElem?_append_left (by simpa using hi),List.getElem?_map] at h
      cases q:ds[i]? with
      | none=>rw [q] at h;cases h
      | some d=>rw [q] at h;cases h
    · rw [List.getElem?_append_right (by simpa using hi),List.getElem?_replicate] at h
      split at h<;>cases h
  refine ⟨Same.refl _,s,by simp [startE,L2.start,hl],fun i sl h=>?_,fun i es a h=>absurd h (noO i es),fun i j es _ a _ h=>absurd h (noO i es)⟩
  unfold startE at h
  unfold L2.start
  by_cases hi:i<ds.length
  · rw [List.getElem?_append_left (by simpa using hi),List.getElem?_map] at h
    cases q:ds[i]? with
    | none=>rw [q] at h;cases h
    | some d=>
      rw [q] at h;cases h
      obtain ⟨v,h1,h2⟩:=r.get q
      exact ⟨some v,by rw [List.getElem?_append_left (by simpa [← hl] using hi),List.getElem?_map,h1];rfl,v,rfl,h2⟩
  · rw [List.getElem?_append_right (by simpa using hi),List.getElem?_replicate] at h
    split at h
    · rename_i hk
      cases h
      refine ⟨none,?_,trivial⟩
      rw [List.getElem?_append_right (by simpa [← hl] using hi),List.getElem?_replicate,if_pos (by simpa [hl] using hk)]
    · cases h
end
section
variable {P:Program} {w:World} {K:Fg} {mg:Str→Option Value} {base:Heap}
theorem okD {x qual:Str} {st:Stmt} {f:Addr} {fd:FuncData} {N ps:List Str} {k:Nat} {g:Gr} {m:List D→Option D} {fb:Fs} (F:Fun K x qual st f fd) (S:FnScope N ps (defScope st))
    (hb:∀ (cdv:Value) (A:Around) (outer:List Env) (s:Shared) (H:Hp) (E:XK),Room k (A.deeper (envOfC qual (defScope st) s.heap.objs.size f cdv))→SsD (cxOf CX0 P w K mg base N qual (defScope st) f cdv A outer s H E).nox g (defBody st) fb)
    (hm:∀ ds d,ds.length=ps.length→m ds=some d→runF fb N.length ds=some d):FnOk P w K mg base CX0 (k+1) f fd ps (spD K ps.length g m):=by
  refine F.ok S (fun vs H Q E ⟨Z,ds,d,hl,_,r,_⟩=>by rw [← r.len];exact hl) fun cdv A outer s H vs Q E hr hq_=>?_
  obtain ⟨Z,ds,d,hl,s1,r,e,kk⟩:=hq_
  refine ⟨_,hb cdv A outer s H E hr,?_⟩
  obtain ⟨o,e1,e2⟩:=Option.bind_eq_some_iff.mp (hm ds d hl e)
  refine ⟨_,H,Z,o,Rl.start s1 r,e1,?_⟩
  cases o with
  | rt d'=>cases e2;exact kk
  | nx _=>cases e2
  | bk _=>cases e2
  | ct _=>cases e2
end
end Mi
namespace Mi
open PySem PySem.Spec PyProof.Rows L2
mutual
def toPy:D→PyData
  | .non=>.none
  | .bl b=>.bool b
  | .int i=>.int i
  | .str x=>.str x
  | .tup ds=>.tuple (toPys ds)
  | .lst ds=>.list (toPys ds)
  | .dct _=>.none
  | .st _=>.none
  | .ln _=>.none
def toPys:List D→List PyData
  | []=>[]
  | d::ds=>toPy d::toPys ds
end
mutual
def pl:D→Bool
  | .tup ds=>pls ds
  | .lst ds=>pls ds
  | .dct _=>false
  | .st _=>false
  | .ln _=>false
  | _=>true
def pls:List D→Bool
  | []=>true
  | d::ds=>pl d&&pls ds
end
mutual
def eqD:D→D→Bool
  | .non,.non=>true
  | .bl a,.bl b=>a==b
  | .bl a,.int j=>(if a then 1 else 0)==j
  | .int i,.bl b=>i==(if b then 1 else 0)
  | .int i,.int j=>i==j
  | .str x,.str y=>x==y
  | .tup xs,.tup ys=>eqDs xs ys
  | .lst xs,.lst ys=>eqDs xs ys
  | _,_=>false
def eqDs:List D→List D→Bool
  | [],[]=>true
  | x::xs,y::ys=>eqD x y&&eqDs xs ys
  | _,_=>false
end
mutual
theorem eqv_eqD:∀ (d e:D),pl d=true→pl e=true→PyData.eqv (toPy d) (toPy e)=eqD d e
  | .non,e,_,h=>by cases e<;>first | (simp [pl] at h;done) | simp [toPy,PyData.eqv,eqD]
  | .bl b,e,_,h=>by cases e<;>first | (simp [pl] at h;done) | simp [toPy,PyData.eqv,eqD]
  | .int i,e,_,h=>by cases e<;>first | (simp [pl] at h;done) | simp [toPy,PyData.eqv,eqD]
  | .str x,e,_,h=>by cases e<;>first | (simp [pl] at h;done) | simp [toPy,PyData.eqv,eqD]
  | .tup ds,e,h1,h=>by
    unfold pl at h1
    cases e
    case tup es=>unfold pl at h;simp [toPy,PyData.eqv,eqD,eqv_eqDs ds es h1 h]
    case lst es=>unfold pl at h;simp [toPy,PyData.eqv,eqD,eqv_eqDs ds es h1 h]
    all_goals first | (simp [pl] at h;done) | simp [toPy,PyData.eqv,eqD]
  | .lst ds,e,h1,h=>by
    unfold pl at h1
    cases e
    case tup es=>unfold pl at h;simp [toPy,PyData.eqv,eqD,eqv_eqDs ds es h1 h]
    case lst es=>unfold pl at h;simp [toPy,PyData.eqv,eqD,eqv_eqDs ds es h1 h]
    all_goals first | (simp [pl] at h;done) | simp [toPy,PyData.eqv,eqD]
theorem eqv_eqDs:∀ (ds es:List D),pls ds=true→pls es=true→PyData.eqvAll (toPys ds) (toPys es)=eqDs ds es
  | [],es,_,_=>by cases es<;>simp [toPys,PyData.eqvAll,eqDs]
  | d::ds,es,h1,h2=>by
    unfold pls at h1
    rw [Bool.and_eq_true] at h1
    cases es with
    | nil=>simp [toPys,PyData.eqvAll,eqDs]
    | cons e es=>
      unfold pls at h2
      rw [Bool.and_eq_true] at h2
      simp [toPys,PyData.eqvAll,eqDs,eqv_eqD d e h1.1 h2.1,eqv_eqDs ds es h1.2 h2.2]
end
mutual
def dep:D→Nat
  | .tup ds=>deps ds+1
  | .lst ds=>deps ds+1
  | _=>0
def deps:List D→Nat
  | []=>0
  | d::ds=>max (dep d) (deps ds)
end
mutual
theorem depth_dep:∀ (d:D),(toPy d).depth=dep d
  | .non=>by simp [toPy,PyData.depth,dep]
  | .bl b=>by simp [toPy,PyData.depth,dep]
  | .int i=>by simp [toPy,PyData.depth,dep]
  | .str x=>by simp [toPy,PyData.depth,dep]
  | .tup ds=>by simp [toPy,PyData.depth,dep,depth_deps ds]
  | .lst ds=>by simp [toPy,PyData.depth,dep,depth_deps ds]
  | .dct ks=>by simp [toPy,PyData.depth,dep]
  | .st ks=>by simp [toPy,PyData.depth,dep]
  | .ln ks=>by simp [toPy,PyData.depth,dep]
theorem depth_deps:∀ (ds:List D),PyData.depthAll (toPys ds)=deps ds
  | []=>by simp [toPys,PyData.depthAll,deps]
  | d::ds=>by simp [toPys,PyData.depthAll,deps,depth_dep d,depth_deps ds]
end
section
variable {X:Cx} {pins:List (Addr×Obj)} {σ:L2.St} {H:Hp} {s:Shared}
mutual
theorem reads_of (I:Inv X pins σ H s):∀ (d:D) {x:V} {v:Value},pl d=true→Rep X.K H d x→RelV x v→∃ as,Reads s.heap v (toPy d) as
  | .non,_,_,_,h,r=>by cases (show _=V.non from h);cases r;exact ⟨_,.none⟩
  | .bl b,_,_,_,h,r=>by cases (show _=V.bl b from h);cases r;exact ⟨_,.bool b⟩
  | .int i,_,_,_,h,r=>by cases (show _=V.int i from h);obtain ⟨t,rfl⟩:=r;exact ⟨_,.int i t⟩
  | .str y,_,_,_,h,r=>by obtain ⟨h,_⟩:=h;subst h;obtain ⟨t,rfl⟩:=r;exact ⟨_,.str y t⟩
  | .tup ds,_,_,hp,h,r=>by
    unfold pl at hp
    obtain ⟨a,vs,e,q,rr⟩:=h
    subst e
    cases r
    obtain ⟨its,rv,⟨o,ho,hc,n,hd⟩,_⟩:=I.tuple q
    obtain ⟨as,ra⟩:=reads_all I ds hp rr rv
    exact ⟨as,.tuple ho hc hd (by simpa [toPy] using ra)⟩
  | .lst ds,_,_,hp,h,r=>by
    unfold pl at hp
    obtain ⟨a,vs,e,q,rr⟩:=h
    subst e
    cases r
    obtain ⟨its,rv,pl,_⟩:=I.list q
    obtain ⟨o,ho,hc,n,hd⟩:=pl.isList
    obtain ⟨as,ra⟩:=reads_all I ds hp rr rv
    exact ⟨_,.list ho hc hd (by simpa [toPy] using ra)⟩
  | .dct ks,_,_,hp,_,_=>by unfold pl at hp;cases hp
  | .st ks,_,_,hp,_,_=>by unfold pl at hp;cases hp
  | .ln ks,_,_,hp,_,_=>by unfold pl at hp;cases hp
theorem reads_all (I:Inv X pins σ H s):∀ (ds:List D) {vs:List V} {us:List Value},pls ds=true→Reps X.K H ds vs→Vals vs us→∃ as,ReadsAll s.heap us (toPys ds) as
  | [],_,_,_,h,r=>by cases (show _=[] from h);cases r;exact ⟨_,by simpa [toPys] using ReadsAll.nil⟩
  | d::ds,_,_,hp,h,r=>by
    unfold pls at hp
    rw [Bool.and_eq_true] at hp
    obtain ⟨v,vr,e,h1,h2⟩:=h
    subst e
    cases r with
    | cons r1 r2=>
      obtain ⟨as,q1⟩:=reads_of I d hp.1 h1 r1
      obtain ⟨bs,q2⟩:=reads_all I ds hp.2 h2 r2
      exact ⟨_,by simpa [toPys] using ReadsAll.cons q1 q2⟩
end
mutual
theorem can_of:∀ (d:D) {x:V},Rep X.K H d x→(toPy d).canLay0=true
  | .non,_,_=>by simp [toPy,PyData.canLay0]
  | .bl b,_,_=>by simp [toPy,PyData.canLay0]
  | .int i,_,_=>by simp [toPy,PyData.canLay0]
  | .str y,_,h=>by simp [toPy,PyData.canLay0,h.2]
  | .tup ds,_,⟨a,vs,e,q,rr⟩=>by simp [toPy,PyData.canLay0,can_all ds rr]
  | .lst ds,_,⟨a,vs,e,q,rr⟩=>by simp [toPy,PyData.canLay0,can_all ds rr]
  | .dct ks,_,_=>by simp [toPy,PyData.canLay0]
  | .st ks,_,_=>by simp [toPy,PyData.canLay0]
  | .ln ks,_,_=>by simp [toPy,PyData.canLay0]
theorem can_all:∀ (ds:List D) {vs:List V},Reps X.K H ds vs→PyData.canLayAll0 (toPys ds)=true
  | [],_,_=>by simp [toPys,PyData.canLayAll0]
  | d::ds,_,⟨v,vr,e,h1,h2⟩=>by simp [toPys,PyData.canLayAll0,can_of d h1,can_all ds h2]
end
def depOk (d e:D):Bool:=(pl d&&pl e)&&(decide (dep d≤60)||decide (dep e≤60))
def rEqD (K:Fg) (neg:Bool):R2:=fun x y H Q=>∃ dx dy,Rep K H dx x∧Rep K H dy y∧depOk dx dy=true∧Q (.bl (if neg then !eqD dx dy else eqD dx dy)) H
theorem room60 {u a b:Nat} (h:u+64<cLine) (h2:a≤60∨b≤60):u+min a b<cLine:=by omega
theorem depOk_or {d e:D} (h:depOk d e=true):dep d≤60∨dep e≤60:=by unfold depOk at h;rw [Bool.and_eq_true] at h;simpa using h.2
theorem depOk_pl {d e:D} (h:depOk d e=true):pl d=true∧pl e=true:=by unfold depOk at h;rw [Bool.and_eq_true,Bool.and_eq_true] at h;exact h.1
theorem op_eqD (hu:X.A.units+64<cLine):OpR X (compareOp .Eq) (rEqD X.K false):=by
  intro pins s σ H x y v u Q I rx ry h
  obtain ⟨dx,dy,h1,h2,hd,q⟩:=h
  obtain ⟨p1,p2⟩:=depOk_pl hd
  obtain ⟨as,r1⟩:=reads_of I dx p1 h1 rx
  obtain ⟨bs,r2⟩:=reads_of I dy p2 h2 ry
  refine SeqAt.compareEq_reads r1 r2 (can_of dx h1) (can_of dy h2) (by rw [depth_dep,depth_dep];exact room60 hu (depOk_or hd)) ?_
  rw [eqv_eqD _ _ p1 p2]
  exact ⟨.bl _,H,I,rfl,q⟩
theorem op_neD (hu:X.A.units+64<cLine):OpR X (compareOp .NotEq) (rEqD X.K true):=by
  intro pins s σ H x y v u Q I rx ry h
  obtain ⟨dx,dy,h1,h2,hd,q⟩:=h
  obtain ⟨p1,p2⟩:=depOk_pl hd
  obtain ⟨as,r1⟩:=reads_of I dx p1 h1 rx
  obtain ⟨bs,r2⟩:=reads_of I dy p2 h2 ry
  refine SeqAt.compareNe_reads r1 r2 (can_of dx h1) (can_of dy h2) (by rw [depth_dep,depth_dep];exact room60 hu (depOk_or hd)) ?_
  rw [eqv_eqD _ _ p1 p2]
  exact ⟨.bl _,H,I,rfl,q⟩
def eqF:D→D→Option D:=fun a b=>if depOk a b=true then some (.bl (eqD a b)) else none
def neF:D→D→Option D:=fun a b=>if depOk a b=true then some (.bl !eqD a b) else none
theorem d_eq {K:Fg}:Does K .cl eqF (rEqD K false):=fun {Z H x y dx dy d Q} s h1 h2 e k=>by
  obtain ⟨hd,rfl⟩:=ifS e
  exact ⟨dx,dy,h1.rep s,h2.rep s,hd,k _ Z H (Ex.refl s) rfl⟩
theorem d_ne {K:Fg}:Does K .cl neF (rEqD K true):=fun {Z H x y dx dy d Q} s h1 h2 e k=>by
  obtain ⟨hd,rfl⟩:=ifS e
  exact ⟨dx,dy,h1.rep s,h2.rep s,hd,k _ Z H (Ex.refl s) rfl⟩
variable {l r c:Expr} {fa fb fc:Fe} {ga gb gc:Gr} {pos p p2:Pos} {k:Nat}
theorem m_eq (hr:Room k X.A) (ha:PD X ga l fa) (hb:PD X gb r fb):PD X .cl (.Compare l [.Eq] [r] pos) (op2 eqF fa fb):=m_cmp (op_eqD hr.units) d_eq ha hb (nomark _)
theorem b_eq (hr:Room k X.A) (ha:PD X ga l fa) (hb:PD X gb r fb):PB X (.Compare l [.Eq] [r] pos) (fB (op2 eqF fa fb)):=b_cmp (op_eqD hr.units) d_eq ha hb (nomark _)
theorem b_ne (hr:Room k X.A) (ha:PD X ga l fa) (hb:PD X gb r fb):PB X (.Compare l [.NotEq] [r] pos) (fB (op2 neF fa fb)):=b_cmp (op_neD hr.units) d_ne ha hb (nomark _)
def inD (d:D) (es:List D):Bool:=es.any fun e=>eqD e d
def inF (neg:Bool):D→D→Option D
  | d,.lst es=>if dep d≤60∧(pl d&&pls es)=true then some (.bl (if neg then !inD d es else inD d es)) else none
  | d,.tup es=>if dep d≤60∧(pl d&&pls es)=true then some (.bl (if neg then !inD d es else inD d es)) else none
  | _,_=>none
def rInD (K:Fg) (neg:Bool):R2:=fun x y H Q=>∃ dx es p ys,Rep K H dx x∧y=.ref p∧(SqL K H p ys∨SqT K H p ys)∧Reps K H es ys∧(dep dx≤60∧(pl dx&&pls es)=true)∧Q (.bl (if neg then !inD dx es else inD dx es)) H
noncomputable def eqVal (h:Heap) (d:PyData) (y:Value):Bool:=@decide (∃ e as,Reads h y e as∧e.canLay0=true∧PyData.eqv e d=true) (Classical.propDecidable _)
theorem eqVal_of {h:Heap} {d e:PyData} {y:Value} {as:List Addr} (r:Reads h y e as) (c:e.canLay0=true):eqVal h d y=PyData.eqv e d:=by
  unfold eqVal
  cases q:PyData.eqv e d with
  | true=>exact @decide_eq_true _ (Classical.propDecidable _) ⟨e,as,r,c,q⟩
  | false=>
    refine @decide_eq_false _ (Classical.propDecidable _) fun hq_=>?_
    obtain ⟨e',as',r',c',q'⟩:=hq_
    rw [SeqAt.Reads.unique e' e y as' as c' r' r] at q'
    rw [q] at q';cases q'
theorem any_eqVal (I:Inv X pins σ H s) (dx:D) (hx:pl dx=true):∀ {es:List D} {ys:List V} {us:List Value},pls es=true→Reps X.K H es ys→Vals ys us→us.any (eqVal s.heap (toPy dx))=inD dx es
  | [],_,_,_,h,r=>by cases (show _=[] from h);cases r;rfl
  | e::es,_,_,hp,h,r=>by
    unfold pls at hp
    rw [Bool.and_eq_true] at hp
    obtain ⟨v,vr,z,h1,h2⟩:=h
    subst z
    cases r with
    | cons r1 r2=>
      obtain ⟨as,q⟩:=reads_of I e hp.1 h1 r1
      have ih:=any_eqVal I dx hx hp.2 h2 r2
      unfold inD at ih ⊢
      rw [List.any_cons,List.any_cons,ih,eqVal_of q (can_of e h1),eqv_eqD _ _ hp.1 hx]
theorem all_eqAt (I:Inv X pins σ H s) {A:Around} {dx:D} {x:V} {v:Value} (hx:Rep X.K H dx x) (rx:RelV x v) (hu:A.units+64<cLine) (hd:dep dx≤60) (hpx:pl dx=true):∀ {es:List D} {ys:List V} {us:List Value},pls es=true→Reps X.K H es ys→Vals ys us→
    ∀ u∈us,SeqAt.EqAt A s u v (eqVal s.heap (toPy dx) u)
  | [],_,_,_,h,r,u,hm=>by cases (show _=[] from h);cases r;cases hm
  | e::es,_,_,hp,h,r,u,hm=>by
    unfold pls at hp
    rw [Bool.and_eq_true] at hp
    obtain ⟨w,vr,z,h1,h2⟩:=h
    subst z
    cases r with
    | cons r1 r2=>
      rcases List.mem_cons.mp hm with rfl | hm
      · obtain ⟨as,q⟩:=reads_of I e hp.1 h1 r1
        obtain ⟨bs,q2⟩:=reads_of I dx hpx hx rx
        rw [eqVal_of q (can_of e h1)]
        exact SeqAt.eqAt_reads _ _ A s _ _ as bs q q2 (can_of e h1) (can_of dx hx) (by rw [depth_dep,depth_dep];exact room60 hu (.inr hd))
      · exact all_eqAt I hx rx hu hd hpx hp.2 h2 r2 u hm
theorem op_inD (hu:X.A.units+66<cLine) (neg:Bool):OpR X (compareOp (if neg then .NotIn else .In)) (rInD X.K neg):=by
  intro pins s σ H x y v u Q I rx ry h
  obtain ⟨dx,es,p,ys,h1,rfl,h2,rr,⟨hd,hpp⟩,q⟩:=h
  rw [Bool.and_eq_true] at hpp
  obtain ⟨hpx,hpe⟩:=hpp
  cases ry
  have hu':X.A.in1.units+64<cLine:=by show X.A.units+1+64<cLine;omega
  rcases h2 with h2 | h2
  · obtain ⟨its,r',pl,hz⟩:=I.list h2
    have ha:=any_eqVal I dx hpx hpe rr r'
    have hall:∀ y,y∈its.toArray→SeqAt.EqAt X.A.in1 s y v (eqVal s.heap (toPy dx) y):=fun y hy=>all_eqAt I h1 rx hu' hd hpx hpe rr r' y (by simpa using hy)
    have fin:EP X pins σ Q (.bool (if neg then !its.toArray.any (eqVal s.heap (toPy dx)) else its.toArray.any (eqVal s.heap (toPy dx)))) s:=⟨_,H,I,(by rw [List.any_toArray,ha]<;>rfl),q⟩
    cases neg with
    | false=>exact SeqAt.in_listAt _ pl.isList hall fin
    | true=>exact SeqAt.notIn_listAt _ pl.isList hall fin
  · obtain ⟨its,r',pl,hz⟩:=I.tuple h2
    have ha:=any_eqVal I dx hpx hpe rr r'
    have hall:∀ y,y∈its.toArray→SeqAt.EqAt X.A.in1 s y v (eqVal s.heap (toPy dx) y):=fun y hy=>all_eqAt I h1 rx hu' hd hpx hpe rr r' y (by simpa using hy)
    have fin:EP X pins σ Q (.bool (if neg then !its.toArray.any (eqVal s.heap (toPy dx)) else its.toArray.any (eqVal s.heap (toPy dx)))) s:=⟨_,H,I,(by rw [List.any_toArray,ha]<;>rfl),q⟩
    cases neg with
    | false=>exact SeqAt.in_tupleAt _ (show s.heap.IsTuple p its.toArray from pl) hall fin
    | true=>exact SeqAt.notIn_tupleAt _ (show s.heap.IsTuple p its.toArray from pl) hall fin
theorem d_in {K:Fg} {neg:Bool}:Does K .cl (inF neg) (rInD K neg):=fun {Z H x y dx dy d Q} s h1 h2 e k=>by
  cases dy<;>try cases e
  · obtain ⟨hd,rfl⟩:=ifS e
    obtain ⟨a,vs,rfl,q,r⟩:=h2.tup s
    exact ⟨dx,_,a,vs,h1.rep s,rfl,.inr q,Reps.mono s _ r,hd,k _ Z H (Ex.refl s) rfl⟩
  · obtain ⟨hd,rfl⟩:=ifS e
    obtain ⟨a,vs,rfl,q,r⟩:=h2.lst s
    exact ⟨dx,_,a,vs,h1.rep s,rfl,.inl q,Reps.mono s _ r,hd,k _ Z H (Ex.refl s) rfl⟩
theorem units66 {A:Around} (r:Room k A):A.units+66<cLine:=by have:=r.un;omega
theorem b_nin (hr:Room k X.A) (ha:PD X ga l fa) (hb:PD X gb r fb) (hm:behindInMarks .NotIn r=false:=by rfl):PB X (.Compare l [.NotIn] [r] pos) (fB (op2 (inF true) fa fb)):=b_cmp (op_inD (units66 hr) true) d_in ha hb hm
inductive Ty where | int | bool | str | tuple | list
def Ty.nm:Ty→String
  | .int=>"int" | .bool=>"bool" | .str=>"str" | .tuple=>"tuple" | .list=>"list"
def isK:Ty→D→Bool
  | .int,.int _=>true
  | .int,.bl _=>true
  | .bool,.bl _=>true
  | .str,.str _=>true
  | .tuple,.tup _=>true
  | .list,.lst _=>true
  | _,_=>false
def tyD:D→String
  | .non=>"NoneType" | .bl _=>"bool" | .int _=>"int" | .str _=>"str" | .tup _=>"tuple" | .lst _=>"list" | .dct _=>"dict" | .st _=>"set" | .ln _=>"dict"
theorem kit_isK {K:Fg} (T:Ty) (d:D):PySem.W.kitOne K (.type (tyD d)) (.type T.nm)=some (isK T d):=by
  cases T<;>cases d<;>rfl
theorem call_isi (T:Ty):CallR X (.builtin "isinstance") (fun xs H Q=>∃ x d,xs=[x,.ty T.nm]∧Rep X.K H d x∧Q (.bl (isK T d)) H):=by
  intro pins s σ H xs us Q I r h
  obtain ⟨x,d,rfl,hd,q⟩:=h
  obtain ⟨u,w,rfl,rx,rt⟩:=r.two
  cases (show w=Value.type T.nm from rt)
  have e:=kit_isK (K:=X.K) T d
  have fin:∀ tk,EP X pins σ Q (.bool (isK T d)) { s with toks:=tk }:=fun tk=>⟨.bl _,H,I.tok tk,rfl,q⟩
  cases d with
  | non=>cases (show x=V.non from hd);cases (show u=Value.none from rx);exact PySem.W.kia_one PySem.W.kitx_none I.kIn True.intro e (fun z=>nomatch z) fin
  | bl b=>cases (show x=V.bl b from hd);cases (show u=Value.bool b from rx);exact PySem.W.kia_one PySem.W.kitx_bool I.kIn True.intro e (fun z=>nomatch z) fin
  | int i=>cases (show x=V.int i from hd);obtain ⟨t,z⟩:=(show ∃ t,u=Value.int i t from rx);cases z;exact PySem.W.kia_one PySem.W.kitx_int I.kIn True.intro e (fun z=>nomatch z) fin
  | str y=>obtain ⟨hd,_⟩:=hd;subst hd;obtain ⟨t,z⟩:=(show ∃ t,u=Value.str y t from rx);cases z;exact PySem.W.kia_one PySem.W.kitx_str I.kIn True.intro e (fun z=>nomatch z) fin
  | tup ds=>
    obtain ⟨a,vs,e1,hq,rr⟩:=hd
    subst e1
    cases (show u=Value.ref a from rx)
    obtain ⟨its,_,⟨o,h1,h2,_⟩,_⟩:=I.tuple hq
    exact PySem.W.kia_one PySem.W.kitx_tuple I.kIn ⟨o,h1,h2⟩ e (fun z=>nomatch z) fin
  | lst ds=>
    obtain ⟨a,vs,e1,hq,rr⟩:=hd
    subst e1
    cases (show u=Value.ref a from rx)
    obtain ⟨its,_,pl,_⟩:=I.list hq
    obtain ⟨o,h1,h2,_⟩:=pl.isList
    exact PySem.W.kia_one PySem.W.kitx_list I.kIn ⟨o,h1,h2⟩ e (fun z=>nomatch z) fin
  | dct ks=>
    obtain ⟨a,e1,hq⟩:=hd
    subst e1
    cases (show u=Value.ref a from rx)
    obtain ⟨bs,hq,_⟩:=hq
    obtain ⟨⟨o,es,ep,h1,h2,_⟩,_⟩:=(show ObjOk X.prog X.w H s.heap a (.ext (DicP a ks bs)) from I.hok a _ hq)
    exact PySem.W.kia_one PySem.W.kitx_dict I.kIn ⟨o,h1,h2.1⟩ e (fun z=>nomatch z) fin
  | st ps=>
    obtain ⟨a,bs,e1,_,hq,_⟩:=hd
    subst e1
    cases (show u=Value.ref a from rx)
    obtain ⟨⟨o,es,ep,t,h1,h2,_⟩,_⟩:=(show ObjOk X.prog X.w H s.heap a (.ext (SetP a ps bs)) from I.hok a _ hq)
    exact PySem.W.kia_one PySem.W.kitx_set I.kIn ⟨o,h1,h2.1⟩ e (fun z=>nomatch z) fin
  | ln n=>
    obtain ⟨a,e1,hq⟩:=hd
    subst e1
    cases (show u=Value.ref a from rx)
    obtain ⟨⟨o,es,ep,h1,h2,_⟩,_⟩:=(show ObjOk X.prog X.w H s.heap a (.ext (LenP a n)) from I.hok a _ hq)
    exact PySem.W.kia_one PySem.W.kitx_dict I.kIn ⟨o,h1,h2.1⟩ e (fun z=>nomatch z) fin
def isiF (T:Ty):D→Option D:=fun d=>some (.bl (isK T d))
theorem boot_ty (T:Ty):bootBuiltins (Str.ofString T.nm)=some (.type T.nm):=by
  cases T
  · exact PyProof.Rows.boot_int
  · exact PyProof.Rows.boot_bool
  · exact PyProof.Rows.boot_str
  · exact PyProof.Rows.boot_tuple
  · exact PyProof.Rows.boot_list
theorem m_isi (T:Ty) (hm:X.mg "isinstance"=none) (hm2:X.mg (Str.ofString T.nm)=none) (ha:PD X ga l fa) (hg:Gl X "isinstance":=by rfl) (hg2:Gl X (Str.ofString T.nm):=by rfl)
    (hn:(Str.ofString T.nm)≠"__name__":=by decide) (hdb:((Str.ofString T.nm)==("__debug__":Str))=false:=by decide)
    (he:starEach [l,.Name (Str.ofString T.nm) p2] X.env=(false,eval l X.env)::starEach [.Name (Str.ofString T.nm) p2] X.env:=by rfl) :
    PD X .cl (.Call (.Name "isinstance" p) [l,.Name (Str.ofString T.nm) p2] [] pos) (un1 (isiF T) fa):=by
  refine PE.imp (pe_callB (call_isi T) hg hm PyProof.Rows.boot_isinstance (pa_cons ha (pa_cons (pe_bltn hg2 hm2 (boot_ty T) (show RelV (.ty T.nm) (.type T.nm) from rfl) hn hdb) pa_nil rfl) he) (by decide) (by decide) he rfl) fun σ H Q hq_=>?_
  obtain ⟨env,B,Z,d,R,e,k⟩:=hq_
  obtain ⟨x,h1,h2⟩:=Option.bind_eq_some_iff.mp e
  cases h2
  exact ⟨env,B,Z,x,R,h1,fun v Z1 H1 x1 g1=>⟨v,x,rfl,g1.rep x1.zh,k _ Z1 H1 x1 rfl⟩⟩
end
end Mi
namespace Mi
open PySem PySem.Spec PyProof.Rows L2
section
variable {elt:Expr} {gens:List Comprehension} {scope:Scope} {pos:Pos} {d:Nat} {tg iter:Expr} {ifs:List Expr} {it acc:Value} {env:Env}
theorem turn_last (h:gens[d]?=some ⟨tg,iter,ifs,0⟩) (h2:gens[d+1]?=none):compTurn (.ListComp elt gens scope pos) d it acc env=(do
    standAt iter.pos
    match ← pyNext it with
    | none=>pure (.done .next)
    | some v=>
      letOwnedTupleGo tg it v
      assign tg env v
      let ok ← forIn ifs true fun c r=>if r=true then do let ok ← isTrue c env (eval c env);pure (ForInStep.yield ok) else pure (ForInStep.yield r)
      if ok then (do let _ ← call (.builtin "list.append") [acc,← eval elt env])
      again (.compLoop (.ListComp elt gens scope pos) d it acc env)):=by
  unfold compTurn
  simp only [h,h2]
  rfl
theorem turn_more {tg' iter':Expr} {ifs':List Expr} (h:gens[d]?=some ⟨tg,iter,ifs,0⟩) (h2:gens[d+1]?=some ⟨tg',iter',ifs',0⟩):compTurn (.ListComp elt gens scope pos) d it acc env=(do
    standAt iter.pos
    match ← pyNext it with
    | none=>pure (.done .next)
    | some v=>
      letOwnedTupleGo tg it v
      assign tg env v
      let ok ← forIn ifs true fun c r=>if r=true then do let ok ← isTrue c env (eval c env);pure (ForInStep.yield ok) else pure (ForInStep.yield r)
      if ok=true then (do
        let x ← eval iter' env
        standAt iter'.pos
        let x ← foldedSetIterable iter' env x
        let i' ← holding [x] (pyIter x)
        let _ ← runOwn (.compStart (.ListComp elt gens scope pos) (d+1) i' acc env) env
        again (.compLoop (.ListComp elt gens scope pos) d it acc env))
      else again (.compLoop (.ListComp elt gens scope pos) d it acc env)):=by
  unfold compTurn
  simp only [h,h2]
  rfl
end
def clOf (lk:Str→Option Addr):List (Str×NameKind)→List (Str×Addr)→Option (List (Str×Addr))
  | [],acc=>some acc
  | (n,k)::r,acc=>if (k==.free)=true then (lk n).bind fun c=>clOf lk r ((n,c)::acc) else clOf lk r acc
theorem clOf_loop {env:Env}:∀ (names:List (Str×NameKind)) (acc cl:List (Str×Addr)),clOf (fun x=>env.cells.lookup x) names acc=some cl→
    (forIn names acc fun (x:Str×NameKind) (r:List (Str×Addr))=>(do if x.2==.free then (do let c ← cellOf env x.1;pure (ForInStep.yield ((x.1,c)::r))) else pure (ForInStep.yield r)):Sem (List (Str×Addr)))=pure cl
  | [],acc,cl,h=>by cases h;rfl
  | (n,k)::r,acc,cl,h=>by
    rw [List.forIn_cons]
    unfold clOf at h
    by_cases hk:(k==NameKind.free)=true
    · rw [if_pos hk] at h
      obtain ⟨c,h1,h2⟩:=Option.bind_eq_some_iff.mp h
      have h1':cellOf env n=pure c:=by unfold cellOf;rw [show env.cells.lookup n=some c from h1]
      simp only [hk,if_true,h1',pure_bind]
      exact clOf_loop r _ cl h2
    · rw [if_neg hk] at h
      simp only [hk,if_false,pure_bind]
      exact clOf_loop r _ cl h
theorem closure_of {scope:Scope} {env:Env} {cl:List (Str×Addr)} (h:clOf (fun x=>env.cells.lookup x) scope.names []=some cl):closureFor scope env=pure cl:=by
  have:=clOf_loop scope.names [] cl h
  unfold closureFor
  simp only
  rw [this]
  rfl
theorem clOf_mem {lk:Str→Option Addr}:∀ {names:List (Str×NameKind)} {acc cl:List (Str×Addr)},clOf lk names acc=some cl→(∀ p∈acc,lk p.1=some p.2)→∀ p∈cl,lk p.1=some p.2
  | [],acc,cl,h,ha=>by cases h;exact ha
  | (n,k)::r,acc,cl,h,ha=>by
    unfold clOf at h
    split at h
    · obtain ⟨c,h1,h2⟩:=Option.bind_eq_some_iff.mp h
      exact clOf_mem h2 fun p hp=>by
        rcases List.mem_cons.mp hp with rfl | hp
        · exact h1
        · exact ha p hp
    · exact clOf_mem h ha
theorem clOf_has {lk:Str→Option Addr}:∀ {names:List (Str×NameKind)} {acc cl:List (Str×Addr)},clOf lk names acc=some cl→∀ x,((x,NameKind.free)∈names∨∃ c,(x,c)∈acc)→∃ c,(x,c)∈cl
  | [],acc,cl,h,x,hx=>by
    cases h
    rcases hx with hx | hx
    · cases hx
    · exact hx
  | (n,k)::r,acc,cl,h,x,hx=>by
    unfold clOf at h
    split at h
    · rename_i hk
      obtain ⟨c,h1,h2⟩:=Option.bind_eq_some_iff.mp h
      refine clOf_has h2 x ?_
      rcases hx with hx | ⟨c',hx⟩
      · rcases List.mem_cons.mp hx with e | hx
        · cases e;exact .inr ⟨c,List.mem_cons_self⟩
        · exact .inl hx
      · exact .inr ⟨c',List.mem_cons_of_mem _ hx⟩
    · rename_i hk
      refine clOf_has h x ?_
      rcases hx with hx | hx
      · rcases List.mem_cons.mp hx with e | hx
        · cases e;exact absurd rfl hk
        · exact .inl hx
      · exact .inr hx
theorem lookup_of_mem {x:Str} {c:Addr}:∀ {cl:List (Str×Addr)},(x,c)∈cl→∃ c',cl.lookup x=some c'
  | [],h=>by cases h
  | (y,b)::r,h=>by
    by_cases e:(x==y)=true
    · exact ⟨b,by simp [List.lookup_cons,e]⟩
    · rcases List.mem_cons.mp h with z | z
      · cases z;exact absurd (beq_self_eq_true x) e
      · obtain ⟨c',h'⟩:=lookup_of_mem z
        exact ⟨c',by simp [List.lookup_cons,e,h']⟩
theorem relabel_kinds {scope:Scope} {env:Env}:∀ {names:List (Str×NameKind)} {x:Str} {k:NameKind},
    (names.map fun (n,k)=>if (k==NameKind.free&&env.scope.kind==.function&&env.kindOf n==some .cell) then (n,NameKind.cell) else (n,k)).lookup x=some k→k=.cell∨k=.free→(x,NameKind.free)∈names∨(x,NameKind.cell)∈names
  | [],x,k,h,_=>by simp at h
  | (n,q)::r,x,k,h,hk=>by
    simp only [List.map_cons] at h
    by_cases hc:(q==NameKind.free&&env.scope.kind==.function&&env.kindOf n==some .cell)=true
    · rw [if_pos hc] at h
      simp only [List.lookup_cons] at h
      cases e:x==n with
      | true=>
        have e':=eq_of_beq e
        subst e'
        simp only [Bool.and_eq_true,beq_iff_eq] at hc
        exact .inl (by rw [hc.1.1];exact List.mem_cons_self)
      | false=>
        rw [e] at h
        rcases relabel_kinds (scope:=scope) h hk with z | z
        · exact .inl (List.mem_cons_of_mem _ z)
        · exact .inr (List.mem_cons_of_mem _ z)
    · rw [if_neg hc] at h
      simp only [List.lookup_cons] at h
      cases e:x==n with
      | true=>
        rw [e] at h
        have e':=eq_of_beq e
        subst e'
        cases h
        rcases hk with rfl | rfl
        · exact .inr List.mem_cons_self
        · exact .inl List.mem_cons_self
      | false=>
        rw [e] at h
        rcases relabel_kinds (scope:=scope) h hk with z | z
        · exact .inl (List.mem_cons_of_mem _ z)
        · exact .inr (List.mem_cons_of_mem _ z)
end Mi
namespace Mi
open PySem PySem.Spec PyProof.Rows L2
def compCx (X:Cx) (scope:Scope) (cl:List (Str×Addr)) (Nc:List Str) (C:Addr) (s:Shared) (H:Hp) (ex:List Addr) (pn:List (Addr×Obj)):Cx:=
  { X with N:=Nc,s₀:=s,H₀:=H,env:=compEnvC scope cl C X.env,outer:=X.stack,stack:=X.stack,ex:=ex,fn:=fun _=>false,pn:=pn,xe:=fun _ _=>False }
def capS (n:Nat) (caps:List Nat) (σ:L2.St):L2.St:=List.replicate n none++caps.map fun j=>(σ[j]?).getD none
def capE (n:Nat) (caps:List Nat) (env:En):En:=List.replicate n .un++caps.map fun j=>match env[j]? with | some (.F d)=>.F d | _=>.un
def capOk (X:Cx) (scope:Scope) (caps:List Nat):Bool:=caps.all fun j=>match X.N[j]? with
  | some x=>(X.env.scope.names.lookup x==some .cell||X.env.scope.names.lookup x==some .free)&&scope.names.lookup x==some .free
  | none=>false
theorem relabel_free {env:Env}:∀ {names:List (Str×NameKind)} {x:Str},names.lookup x=some .free→
    (names.map fun (n,k)=>if (k==NameKind.free&&env.scope.kind==.function&&env.kindOf n==some .cell) then (n,NameKind.cell) else (n,k)).lookup x=some .free∨
    (names.map fun (n,k)=>if (k==NameKind.free&&env.scope.kind==.function&&env.kindOf n==some .cell) then (n,NameKind.cell) else (n,k)).lookup x=some .cell
  | [],x,h=>by simp at h
  | (n,q)::r,x,h=>by
    simp only [List.map_cons]
    simp only [List.lookup_cons] at h
    cases e:x==n with
    | true=>
      rw [e] at h
      cases h
      by_cases hc:(NameKind.free==NameKind.free&&env.scope.kind==.function&&env.kindOf n==some .cell)=true
      · rw [if_pos hc];simp [List.lookup_cons,e]
      · rw [if_neg hc];simp [List.lookup_cons,e]
    | false=>
      rw [e] at h
      by_cases hc:(q==NameKind.free&&env.scope.kind==.function&&env.kindOf n==some .cell)=true
      · rw [if_pos hc];simp only [List.lookup_cons,e];exact relabel_free h
      · rw [if_neg hc];simp only [List.lookup_cons,e];exact relabel_free h
section
variable {X:Cx} {pins:List (Addr×Obj)} {σ:L2.St} {H:Hp} {s:Shared} {scope:Scope} {cl:List (Str×Addr)} {Nc own:List Str} {caps:List Nat} {fp:List Addr}
theorem frs_stack (I:Inv X pins σ H s) {b:Addr} (h1:b≠X.env.locals) (h2:b∉X.fs):b∉frs X.stack:=fun hb=>(List.mem_cons.mp (I.stkSub b hb)).elim h1 h2
theorem comp_inv {h1:Heap} {tk:Nat} {m:Str→Option Value} (I:Inv X pins σ H s) (hcl:clOf (fun x=>X.env.cells.lookup x) scope.names []=some cl) (hkind:scope.kind=.function) (hnc:∀ y∈scope.names,y.2≠.cell)
    (hfp:∀ b∈fp,FpOk X pins H b) (hfl:∀ b∈fp,b<s.heap.objs.size) (hN:Nc.map some=own.map some++caps.map (fun j=>X.N[j]?)) (hcap:capOk X scope caps=true)
    (hns:h1.Ns s.heap.objs.size m) (hk:∀ b o,s.heap.get? b=some o→h1.get? b=some o) :
    Inv (compCx X scope cl Nc s.heap.objs.size s H fp (X.pn++pins)) [] (capS own.length caps σ) H { s with heap:=h1,toks:=tk }:=by
  have mem:=clOf_mem hcl (fun p hp=>by cases hp)
  have low:∀ x c,cl.lookup x=some c→X.env.cells.lookup x=some c:=fun x c h=>mem (x,c) (PySem.mem_of_lookup h)
  have cellAt:∀ x c,cl.lookup x=some c→c<s.heap.objs.size:=fun x c h=>by
    obtain ⟨v,q⟩:=I.cell x c (low x c h)
    exact q.lt
  refine ⟨⟨I.ok.mod,hkind,I.ok.glob,I.ok.blt,Nat.le_refl _,fun x y c h1 h2=>I.ok.inj x y c (low x c h1) (low y c h2),fun x hx=>?_,fun x c hf _=>absurd (show false=true from hf) Bool.false_ne_true,I.ok.hd,I.ok.frames,.inl rfl,fun b hb=>⟨Nat.ne_of_lt (hfl b hb),fun x c h=>(hfp b hb).2.2.2.2.1 x c (low x c h)⟩,
      I.bs,Nat.le_trans I.ok.bsz I.sz,fun b o e hb=>?_,fun b hb hf=>frs_stack I (hfp b hb).2.1 (hfp b hb).2.2.1 hf,I.stack,I.stkFree⟩,
    rfl,I.bare,Un.kept hk,⟨m,hns,fun i x v e1 e2 e3=>?_⟩,fun x c h=>?_,I.hok.fresh (Nat.le_refl _),fun x c h=>I.freeC x c (low x c h),fun p hp=>?_,I.hok.kept hk,?_⟩
  · have hx':(relabel scope X.env).names.lookup x=some .cell∨(relabel scope X.env).names.lookup x=some .free:=hx
    have hmem:(x,NameKind.free)∈scope.names:=by
      rcases hx' with h | h
      · rcases relabel_kinds (scope:=scope) h (.inl rfl) with z | z
        · exact z
        · exact absurd rfl (hnc _ z)
      · rcases relabel_kinds (scope:=scope) h (.inr rfl) with z | z
        · exact z
        · exact absurd rfl (hnc _ z)
    obtain ⟨c,hc⟩:=clOf_has hcl x (.inl hmem)
    exact lookup_of_mem hc
  · rcases (hfp b hb).2.2.2.1 with z | z
    · exact I.ok.noex b o e z
    · exact absurd (Nat.lt_of_lt_of_le (Heap.lt_size e) (Nat.le_trans I.ok.bsz z)) (Nat.lt_irrefl _)
  · have hno:own.length≤i:=by
      by_cases hi:i<own.length
      · unfold capS at e2
        rw [List.getElem?_append_left (by simpa using hi),List.getElem?_replicate,if_pos hi] at e2
        cases e2
      · omega
    unfold capS at e2
    rw [List.getElem?_append_right (by simpa using hno),List.getElem?_map] at e2
    simp only [List.length_replicate] at e2
    cases hj:caps[i-own.length]? with
    | none=>rw [hj] at e2;cases e2
    | some j=>
      rw [hj] at e2
      have e2':(σ[j]?).getD none=some v:=Option.some.inj e2
      have hσ:σ[j]?=some (some v):=by
        cases q:σ[j]? with
        | none=>rw [q] at e2';cases e2'
        | some o=>rw [q] at e2';exact congrArg some e2'
      have hx:X.N[j]?=some x:=by
        have h1:(Nc.map some)[i]?=some (some x):=by rw [List.getElem?_map,show Nc[i]?=some x from e1];rfl
        rw [hN,List.getElem?_append_right (by simpa using hno),List.getElem?_map] at h1
        simp only [List.length_map] at h1
        rw [hj] at h1
        exact Option.some.inj h1
      have hc1:=List.all_eq_true.mp hcap j (List.mem_of_getElem? hj)
      rw [hx] at hc1
      simp only [Bool.and_eq_true,Bool.or_eq_true,beq_iff_eq] at hc1
      obtain ⟨hc1,hc2⟩:=hc1
      obtain ⟨m0,hn0,hl0⟩:=I.loc
      obtain ⟨u,ru,lk⟩:=hl0 j x v hx hσ (.inr hc1)
      refine ⟨u,ru,.inr ?_⟩
      have lk2:∃ c,X.env.cells.lookup x=some c∧s.heap.IsCell c (some u):=by
        rcases lk with ⟨h1,_⟩ | ⟨_,c,h1,h2⟩
        · have h1':X.env.scope.names.lookup x=some .local:=h1
          rcases hc1 with z | z<;>· rw [h1'] at z;cases z
        · exact ⟨c,h1,h2⟩
      obtain ⟨c,h1c,h2c⟩:=lk2
      obtain ⟨c',hc'⟩:=clOf_has hcl x (.inl (PySem.mem_of_lookup hc2))
      obtain ⟨c'',hc''⟩:=lookup_of_mem hc'
      have e4:=low x c'' hc''
      rw [h1c] at e4;cases e4
      refine ⟨?_,c,hc'',?_⟩
      · rcases relabel_free (env:=X.env) hc2 with z | z
        · exact .inr z
        · exact .inl z
      · obtain ⟨o,ho,hd⟩:=h2c
        exact ⟨o,hk c o ho,hd⟩
  · obtain ⟨v,o,ho,hd⟩:=I.cell x c (low x c h)
    exact ⟨v,o,hk c o ho,hd⟩
  · have hp':p∈X.pn++pins:=by simpa [compCx] using hp
    obtain ⟨h1,h2,h3,h4,h5⟩:=I.pin p hp'
    exact ⟨hk _ _ h1,h2,Nat.ne_of_lt (Heap.lt_size h1),frs_stack I h3 h4,h5⟩
  · have:=congrArg List.length hN
    simp only [List.length_map,List.length_append] at this
    simp only [capS,List.length_append,List.length_replicate,List.length_map]
    exact this.symm
end
end Mi
namespace Mi
open PySem PySem.Spec PyProof.Rows L2
def unAll (is:List Nat) (env:En):Bool:=is.all fun i=>match env[i]? with | some .un=>true | _=>false
def goF (t:Ft) (c:Fb) (k:En→Option (List D)) (env:En):List D→Option (List D)
  | []=>some []
  | d::ds=>(t d env).bind fun e1=>(c e1).bind fun b=>(if b=true then k e1 else some []).bind fun xs=>(goF t c k env ds).bind fun ys=>some (xs++ys)
structure TgOk (is:List Nat) (t:Ft):Prop where
  len:∀ {d:D} {env env':En},t d env=some env'→env'.length=env.length
  oth:∀ {d:D} {env env':En},t d env=some env'→∀ (j:Nat),j∉is→env'[j]?=env[j]?
  noO:∀ {d:D} {env env':En},t d env=some env'→∀ (j:Nat) (ds:Own),env'[j]?=some (.O ds)→env[j]?=some (.O ds)
theorem set_noO {env:En} {i:Nat} {d:D} {j:Nat} {ds:Own} (h:(env.set i (.F d))[j]?=some (.O ds)):env[j]?=some (.O ds):=by
  by_cases e:i=j
  · subst e
    by_cases hl:i<env.length
    · rw [List.getElem?_set_self hl] at h;cases h
    · rw [List.getElem?_eq_none (by simpa using Nat.le_of_not_lt hl)] at h;cases h
  · rw [List.getElem?_set_ne e] at h;exact h
theorem tgN_ok (i:Nat):TgOk [i] (tgN i):=⟨fun h=>by cases h;simp,fun h j hj=>by cases h;exact List.getElem?_set_ne (fun z=>hj (by simp [z])),fun h j ds hj=>by cases h;exact set_noO hj⟩
theorem setAll_ok:∀ {is:List Nat} {ds:List D} {env env':En},setAll is ds env=some env'→env'.length=env.length∧(∀ (j:Nat),j∉is→env'[j]?=env[j]?)∧∀ (j:Nat) (es:Own),env'[j]?=some (.O es)→env[j]?=some (.O es)
  | [],[],env,env',h=>by cases h;exact ⟨rfl,fun _ _=>rfl,fun _ _ h=>h⟩
  | i::is,d::ds,env,env',h=>by
    obtain ⟨h1,h2,h3⟩:=setAll_ok (is:=is) (ds:=ds) h
    refine ⟨by simpa using h1,fun j hj=>?_,fun j es hj=>set_noO (h3 j es hj)⟩
    rw [h2 j fun z=>hj (List.mem_cons_of_mem _ z)]
    exact List.getElem?_set_ne fun z=>hj (by simp [z])
  | [],_::_,_,_,h=>by cases h
  | _::_,[],_,_,h=>by cases h
theorem tgT_inv {is:List Nat} {d:D} {env env':En} (h:tgT is d env=some env'):∃ ds,setAll is ds env=some env':=by
  cases d with
  | tup ds=>exact ⟨ds,h⟩
  | _=>cases h
theorem tgT_ok (is:List Nat):TgOk is (tgT is):=
  ⟨fun h=>let ⟨_,q⟩:=tgT_inv h;(setAll_ok q).1,fun h=>let ⟨_,q⟩:=tgT_inv h;(setAll_ok q).2.1,fun h=>let ⟨_,q⟩:=tgT_inv h;(setAll_ok q).2.2⟩
theorem Rl.forget {K:Fg} {B Z H:Hp} {e1 env:En} {σ:L2.St} {is:List Nat} (R:Rl K B Z H e1 σ) (hl:e1.length=env.length) (ho:∀ (j:Nat),j∉is→e1[j]?=env[j]?) (hu:unAll is env=true):Rl K B Z H env σ:=by
  have key:∀ (j:Nat) s,env[j]?=some s→s=.un∨e1[j]?=some s:=fun j s h=>by
    by_cases hj:j∈is
    · have:=List.all_eq_true.mp hu j hj
      rw [h] at this
      cases s with
      | un=>exact .inl rfl
      | F d=>cases this
      | O ds=>cases this
    · exact .inr ((ho j hj).trans h)
  have keyO:∀ (j:Nat) ds,env[j]?=some (.O ds)→e1[j]?=some (.O ds):=fun j ds h=>by
    rcases key j _ h with z | z
    · cases z
    · exact z
  refine ⟨R.bh,R.zh,hl.symm.trans R.len,fun j s h=>?_,fun j ds a h=>R.ob j ds a (keyO j ds h),fun i j ds es a hne h1 h2=>R.ap i j ds es a hne (keyO i ds h1) (keyO j es h2)⟩
  rcases key j s h with rfl | z
  · have hj:j < σ.length:=by rw [← R.len,hl];exact (List.getElem?_eq_some_iff.mp h).1
    exact ⟨σ[j],by simp [hj],trivial⟩
  · exact R.sl j s z
theorem Rl.other {K:Fg} {B Z H:Hp} {env:En} {σ:L2.St} {a:Addr} {o:HO} (R:Rl K B Z H env σ) (hb:B a=none) (hz:Z a=none) (nO:∀ (i:Nat) ds,env[i]?≠some (.O ds)):Rl K B Z (upd H a o) env σ:=
  ⟨smUpdR R.bh hb,smUpdR R.zh hz,R.len,fun j s h=>by
    obtain ⟨x,e,q⟩:=R.sl j s h
    refine ⟨x,e,?_⟩
    cases s with
    | un=>trivial
    | F d=>exact q
    | O ds=>exact absurd h (nO j ds),R.ob,R.ap⟩
structure AcIn (X:Cx) (pins:List (Addr×Obj)) (a:Addr) (B Z H:Hp) (env:En) (σ:L2.St) (pre:List D) (s:Shared):Prop where
  I:Inv X pins σ H s
  R:Rl X.K B Z H env σ
  nO:∀ (i:Nat) ds,env[i]?≠some (.O ds)
  hb:B a=none
  hz:Z a=none
  ac:∃ vs,H a=some (.lst vs)∧Reps X.K Z pre vs
abbrev BdT:=(Shared→Prop)→(Value→Shared→Prop)→Shared→Prop
def Act (X:Cx) (a:Addr) (Bd:BdT) (k:En→Option (List D)):Prop:=∀ (pins:List (Addr×Obj)) (s:Shared) (σ:L2.St) (H B Z:Hp) (env:En) (pre xs:List D) (P:Shared→Prop) (E:Value→Shared→Prop),
  AcIn X pins a B Z H env σ pre s→k env=some xs→pre.length+xs.length≤16000000→(∀ s' σ' H' Z',AcIn X pins a B Z' H' env σ' (pre++xs) s'→Ex Z B Z' H'→P s')→Bd P E s
section
variable {X:Cx} {a:Addr} {elt:Expr} {fe:Fe}
def emitF (f:Fe):En→Option (List D):=fun env=>(f env).bind fun d=>some [d]
def bdEmit (X:Cx) (a:Addr) (elt:Expr):BdT:=fun P E s=>wpAny (model X.prog X.w) X.A (do let _ ← call (.builtin "list.append") [.ref a,← eval elt X.env]:Sem Unit) (fun _ s'=>P s') E s
theorem act_emit (hx:∀ e s,¬ X.xe e s) (h:PD X .cl elt fe):Act X a (bdEmit X a elt) (emitF fe):=by
  intro pins s σ H B Z env pre xs P E A e hl hP
  obtain ⟨d,e1,e2⟩:=Option.bind_eq_some_iff.mp e
  cases e2
  obtain ⟨vs,hv,rr⟩:=A.ac
  refine wpAny_bind (wpAny_mono (h pins s σ H _ A.I ⟨env,B,Z,d,A.R,e1,fun v Z1 H1 x1 g1=>(show ∃ Z1,Ex Z H Z1 H1∧Rep X.K Z1 d v from ⟨Z1,x1,g1⟩)⟩) (fun u s1 hq_=>?_) fun e s z=>(hx e s z).elim)
  obtain ⟨v,H1,I1,r1,Z1,x1,g1⟩:=hq_
  have hne:H a≠none:=by rw [hv];simp
  refine wpAny_bind (wpAny_mono (mt_append pins s1 σ H1 (.ref a) [v] (.ref a) [u] (fun y H2=>H2=upd H1 a (.lst (vs++[v]))) I1 rfl (.cons r1 .nil) ⟨a,vs,v,rfl,rfl,x1.h _ _ hv,by rw [← rr.len,sizeLine_eq];simp at hl;omega,rfl⟩) (fun w s2 hq_=>?_) fun e s z=>(hx e s z).elim)
  obtain ⟨y,H2,I2,r2,q⟩:=hq_
  subst q
  have hz1:=x1.fr a hne A.hz
  have R1:=A.R.ext x1
  refine wpAny_pure (hP s2 σ _ Z1 ⟨I2,R1.other A.hb hz1 A.nO,A.nO,A.hb,hz1,vs++[v],upd_same,(Reps.mono x1.z pre rr).app (Reps.one g1)⟩ ?_)
  exact ⟨smUpdR R1.bh A.hb,x1.z,smUpdR R1.zh hz1,fun b hb e=>x1.fr b (smSome A.R.bh hb) e⟩
def TsD (X:Cx) (ifs:List Expr) (c:Fb):Prop:=∀ (pins:List (Addr×Obj)) (s:Shared) (σ:L2.St) (H:Hp) (Q:Bool→Hp→Prop) (E:Value→Shared→Prop),Inv X pins σ H s→TB X.K c σ H Q→
  wpAny (model X.prog X.w) X.A (forIn ifs true fun c r=>if r=true then do let ok ← isTrue c X.env (eval c X.env);pure (ForInStep.yield ok) else pure (ForInStep.yield r)) (TP X pins σ Q) E s
theorem ts_nil:TsD X [] (fun _=>some true):=fun pins s σ H Q E I hq_=>by
  obtain ⟨env,B,Z,b,R,e,k⟩:=hq_
  cases e
  exact wpAny_tests_nil ⟨H,I,k Z H (Ex.refl R.zh)⟩
theorem ts_one {c:Expr} {f:Fb} (hx:∀ e s,¬ X.xe e s) (h:PB X c f):TsD X [c] f:=fun pins s σ H Q E I q=>
  wpAny_tests_one (wpAny_mono (h pins s σ H Q I q) (fun _ _ z=>z) fun e s z=>(hx e s z).elim)
theorem comp_loop {el:Expr} {gens:List Comprehension} {sc:Scope} {ps:Pos} {dd:Nat} {acc:Value} {tg:Expr} {ifs:List Expr} {is:List Nat} {t:Ft} {c:Fb} {k:En→Option (List D)} {Bd:BdT} {J:It} {fp:List Addr} {it:Addr} {tn:Nat→Heap→Prop}
    (hx:∀ e s,¬ X.xe e s) (hcalm:X.calm=true) (T:Turn X.prog X.w X.K tg J fp it tn) (hg:GD X tg t) (ht:TgOk is t) (hts:TsD X ifs c) (hact:Act X a Bd k)
    (htw:∀ (s:Shared) (Q:Fin→Shared→Prop) (E:Value→Shared→Prop),
      wpAny (model X.prog X.w) X.A (pyNext (.ref it)) (fun r s1=>match r with
        | none=>Q (.done .next) s1
        | some v=>wpAny (model X.prog X.w) X.A (letOwnedTupleGo tg (.ref it) v) (fun _ s2=>wpAny (model X.prog X.w) X.A (assign tg X.env v) (fun _ s3=>
            wpAny (model X.prog X.w) X.A (forIn ifs true fun c r=>if r=true then do let ok ← isTrue c X.env (eval c X.env);pure (ForInStep.yield ok) else pure (ForInStep.yield r)) (fun ok s4=>
              if ok=true then Bd (fun s5=>Q (.again (.compLoop (.ListComp el gens sc ps) dd (.ref it) acc X.env)) s5) E s4 else Q (.again (.compLoop (.ListComp el gens sc ps) dd (.ref it) acc X.env)) s4) E s3) E s2) E s1) E s→
      wpAny (model X.prog X.w) X.A (compTurn (.ListComp el gens sc ps) dd (.ref it) acc X.env) Q E s)
    {pins:List (Addr×Obj)} {s:Shared} {σ:L2.St} {H B Z:Hp} {env:En} {pre xs ds:List D} {R:Result→Shared→Prop} (A:AcIn X pins a B Z H env σ pre s) (hfp:∀ b∈fp,FpOk X pins H b) (htn:tn 0 s.heap) (hw:Walk X.K Z ds J) (hu:unAll is env=true)
    (hgo:goF t c k env ds=some xs) (hl:pre.length+xs.length≤16000000) (hR:∀ s' σ' H' Z',AcIn X pins a B Z' H' env σ' (pre++xs) s'→Ex Z B Z' H'→(∀ b∈fp,H' b=none)→R (.ok .next) s') :
    codeAny (model X.prog X.w) X.A (.compLoop (.ListComp el gens sc ps) dd (.ref it) acc X.env) R s:=by
  have stat:∀ {H':Hp},(∀ b∈fp,H' b=none)→∀ b∈fp,FpOk X pins H' b:=fun hn b hb=>⟨hn b hb,(hfp b hb).2⟩
  refine codeAny_loop rfl (fun n s'=>∃ i σ' H' Z' pre' rest,AcIn X pins a B Z' H' env σ' pre' s'∧tn i s'.heap∧(∀ b∈fp,H' b=none)∧n=ds.length-i∧i≤ds.length∧Ex Z B Z' H'∧goF t c k env (ds.drop i)=some rest∧pre'++rest=pre++xs)
    (fun n s1 hI=>?_) ds.length ⟨0,σ,H,Z,pre,xs,A,htn,fun b hb=>(hfp b hb).1,by simp,Nat.zero_le _,⟨A.R.bh,Same.refl _,A.R.zh,fun _ _ h=>h⟩,by simpa using hgo,rfl⟩
  obtain ⟨i,σ1,H1,Z1,pre1,rest,A1,tn1,fr1,rfl,hi,x1,go1,hpre⟩:=hI
  show wpAny (model X.prog X.w) X.A ((compTurn (.ListComp el gens sc ps) dd (.ref it) acc X.env).onRaise (fun x=>do noteFrame x X.env;theTreesLotGoes x)) _ _ s1
  refine wpAny_noted (htw s1 _ _ ?_)
  obtain ⟨w1,w2⟩:=hw Z1 H1 x1.z A1.R.zh i
  by_cases hlt:i<ds.length
  · obtain ⟨go,yl⟩:=w1 hlt
    refine thn (T.item X rfl rfl rfl hcalm i pins s1 σ1 H1 _ A1.I (stat fr1) tn1 go) fun r s2 hq_=>?_
    obtain ⟨u,hr,h2⟩:=hq_
    subst hr
    refine thn h2 fun _ s3 hq_=>?_
    obtain ⟨x,H3,I3,r3,y3,tn3,fr3⟩:=hq_
    obtain ⟨Z3,d,x3,hd,rep3⟩:=yl x H3 y3
    have hdr:ds.drop i=d::ds.drop (i+1):=by
      obtain ⟨h1,h2⟩:=List.getElem?_eq_some_iff.mp hd
      rw [List.drop_eq_getElem_cons h1,h2]
    rw [hdr] at go1
    unfold goF at go1
    obtain ⟨e1,g1,go1⟩:=Option.bind_eq_some_iff.mp go1
    obtain ⟨b,g2,go1⟩:=Option.bind_eq_some_iff.mp go1
    obtain ⟨ys,g3,go1⟩:=Option.bind_eq_some_iff.mp go1
    obtain ⟨zs,g4,go1⟩:=Option.bind_eq_some_iff.mp go1
    cases go1
    have I3':=I3.pinned (stat fr3) (T.obj _ _ tn3)
    obtain ⟨vs,hv,rr⟩:=A1.ac
    have hne:H1 a≠none:=by rw [hv];simp
    have hz3:=x3.fr a hne A1.hz
    have R3:=A1.R.ext x3
    refine wpAny_mono (hg _ s3 σ1 H3 x u (fun σ4 H4=>H4=H3∧Rl X.K B Z3 H3 e1 σ4) I3' r3 ⟨env,B,Z3,d,e1,R3,rep3,g1,fun σ4 R4=>⟨rfl,R4⟩⟩) (fun _ s4 hq_=>?_) fun e s z=>(hx e s z).elim
    obtain ⟨σ4,H4,I4,h4,R4⟩:=hq_
    subst h4
    have nextI:∀ (s7:Shared) (σ7:L2.St) (H7 Z7:Hp) (pre7:List D),AcIn X (pins++pinsAt fp s3.heap) a B Z7 H7 e1 σ7 pre7 s7→Ex Z B Z7 H7→pre7++zs=pre++xs→
        ∃ m,m<ds.length-i∧∃ i σ' H' Z' pre' rest,AcIn X pins a B Z' H' env σ' pre' s7∧tn i s7.heap∧(∀ b∈fp,H' b=none)∧m=ds.length-i∧i≤ds.length∧Ex Z B Z' H'∧goF t c k env (ds.drop i)=some rest∧pre'++rest=pre++xs:=by
      intro s7 σ7 H7 Z7 pre7 A7 x7 h7
      have pin7:∀ b∈fp,∀ o,s3.heap.get? b=some o→s7.heap.get? b=some o∧H7 b=none:=fun b hb o e=>
        let q:=A7.I.pin (b,o) (List.mem_append_right _ (List.mem_append_right _ (mem_pinsAt hb e)))
        ⟨q.1,q.2.1⟩
      refine ⟨ds.length-(i+1),by omega,i+1,σ7,H7,Z7,pre7,zs,⟨A7.I.unpinned,A7.R.forget (ht.len g1) (ht.oth g1) hu,A1.nO,A7.hb,A7.hz,A7.ac⟩,T.keep _ _ _ tn3 fun b hb o e=>(pin7 b hb o e).1,fun b hb=>?_,rfl,hlt,x7,g4,h7⟩
      obtain ⟨o,e,_⟩:=T.obj _ _ tn3 b hb
      exact (pin7 b hb o e).2
    refine thn (hts _ s4 σ4 H4 (fun b' H5=>b'=b∧∃ Z5,Ex Z3 H4 Z5 H5) _ I4 ⟨e1,B,Z3,b,R4,g2,fun Z5 H5 x5=>⟨rfl,Z5,x5⟩⟩) fun ok s5 hq_=>?_
    obtain ⟨H5,I5,hok,Z5,x5⟩:=hq_
    subst hok
    have hne4:H4 a≠none:=smSome x3.h hne
    have hz5:=x5.fr a hne4 hz3
    have x35:=x3.trans x5
    have A5:AcIn X (pins++pinsAt fp s3.heap) a B Z5 H5 e1 σ4 pre1 s5:=⟨I5,R4.ext x5,fun j es h=>A1.nO j es (ht.noO g1 j es h),A1.hb,hz5,vs,x35.h _ _ hv,Reps.mono x35.z pre1 rr⟩
    have xB:Ex Z B Z5 H5:=x1.transB (x35.part A1.R.bh)
    cases ok with
    | false=>
      rw [if_neg (by simp)] at g3
      cases g3
      rw [if_neg (by simp)]
      exact ⟨rfl,nextI s5 σ4 H5 Z5 pre1 A5 xB (by simpa using hpre)⟩
    | true=>
      rw [if_pos rfl] at g3
      rw [if_pos rfl]
      have hlen:=congrArg List.length hpre
      simp only [List.length_append] at hlen
      exact hact _ s5 σ4 H5 B Z5 e1 pre1 ys _ _ A5 g3 (by omega) fun s7 σ7 H7 Z7 A7 x7=>⟨rfl,nextI s7 σ7 H7 Z7 (pre1++ys) A7 (xB.transB x7) (by rw [List.append_assoc];exact hpre)⟩
  · have hii:i=ds.length:=by omega
    subst hii
    rw [List.drop_eq_nil_of_le (by omega)] at go1
    cases go1
    rw [List.append_nil] at hpre
    refine thn (T.done X rfl rfl rfl hcalm _ pins s1 σ1 H1 _ A1.I (stat fr1) tn1 (w2 (Nat.le_refl _))) fun r s2 hq_=>?_
    obtain ⟨hr,I2⟩:=hq_
    subst hr
    exact hR s2 σ1 H1 Z1 ⟨I2,A1.R,A1.nO,A1.hb,A1.hz,by rw [← hpre];exact A1.ac⟩ x1 fr1
end
end Mi
namespace Mi
open PySem PySem.Spec PyProof.Rows L2
section
variable {P:Program} {w:World} {A:Around} {elt:Expr} {gens:List Comprehension} {scope:Scope} {pos:Pos} {d:Nat} {tg iter:Expr} {ifs:List Expr} {it acc:Value} {env:Env} {R:Result→Shared→Prop} {s:Shared}
theorem start_list (h:gens[d]?=some ⟨tg,iter,ifs,0⟩) (h0:codeAny (model P w) A (.compLoop (.ListComp elt gens scope pos) d it acc env) R s)
    (h1:wpAny (model P w) A (pyIter it) (fun it' s'=>codeAny (model P w) A (.compLoop (.ListComp elt gens scope pos) d it' acc env) R s') (notedBy (model P w) A env fun x s'=>R (.error x) s') s) :
    codeAny (model P w) A (.compStart (.ListComp elt gens scope pos) d it acc env) R s:=by
  refine codeAny_of_tree (show wpAny (model P w) A ((compStart (.ListComp elt gens scope pos) d it acc env).onRaise (fun x=>do noteFrame x env;standAt theWindowsPlace)) _ _ s from wpAny_notedAt ?_)
  have hc:(clausesOf (.ListComp elt gens scope pos))[d]?=some ⟨tg,iter,ifs,0⟩:=h
  unfold compStart
  rw [hc]
  show wpAny (model P w) A (ask >>= _) _ _ s
  refine wpAny_bind (wpAny_askSetting (wpAny_ite ?_))<;>skip
  split
  · first
      | exact wpAny_bind (wpAny_pure (wpAny_pure ⟨rfl,h0⟩))
      | exact wpAny_pure ⟨rfl,h0⟩
  · refine wpAny_bind (wpAny_rule ?_)
    first
      | exact wpAny_bind (wpAny_standAt (wpAny_bind (wpAny_mono h1 (fun it' s' q=>wpAny_pure ⟨rfl,q⟩) fun _ _ x=>x)))
      | (show wpAny (model P w) A (standAt iter.pos >>= _) _ _ s
         exact wpAny_bind (wpAny_standAt (wpAny_bind (wpAny_mono h1 (fun it' s' q=>wpAny_pure ⟨rfl,q⟩) fun _ _ x=>x))))
end
section
variable {X:Cx} {a:Addr} {elt:Expr} {gens:List Comprehension} {scope:Scope} {pos:Pos} {d:Nat} {tg iter tg' iter':Expr} {ifs ifs':List Expr} {it:Addr}
theorem tw_last (h:gens[d]?=some ⟨tg,iter,ifs,0⟩) (h2:gens[d+1]?=none) (s:Shared) (Q:Fin→Shared→Prop) (E:Value→Shared→Prop)
    (hw:wpAny (model X.prog X.w) X.A (pyNext (.ref it)) (fun r s1=>match r with
        | none=>Q (.done .next) s1
        | some v=>wpAny (model X.prog X.w) X.A (letOwnedTupleGo tg (.ref it) v) (fun _ s2=>wpAny (model X.prog X.w) X.A (assign tg X.env v) (fun _ s3=>
            wpAny (model X.prog X.w) X.A (forIn ifs true fun c r=>if r=true then do let ok ← isTrue c X.env (eval c X.env);pure (ForInStep.yield ok) else pure (ForInStep.yield r)) (fun ok s4=>
              if ok=true then bdEmit X a elt (fun s5=>Q (.again (.compLoop (.ListComp elt gens scope pos) d (.ref it) (.ref a) X.env)) s5) E s4 else Q (.again (.compLoop (.ListComp elt gens scope pos) d (.ref it) (.ref a) X.env)) s4) E s3) E s2) E s1) E s) :
    wpAny (model X.prog X.w) X.A (compTurn (.ListComp elt gens scope pos) d (.ref it) (.ref a) X.env) Q E s:=by
  rw [turn_last h h2]
  refine wpAny_bind (wpAny_standAt (wpAny_bind (thn hw fun r s1 q1=>?_)))
  cases r with
  | none=>exact wpAny_pure q1
  | some v=>
    refine wpAny_bind (thn q1 fun _ s2 q2=>wpAny_bind (thn q2 fun _ s3 q3=>wpAny_bind (thn q3 fun ok s4 q4=>?_)))
    cases ok with
    | false=>exact wpAny_pure (show Q (.again (.compLoop (.ListComp elt gens scope pos) d (.ref it) (.ref a) X.env)) s4 from by rw [if_neg (by simp)] at q4;exact q4)
    | true=>
      rw [if_pos rfl] at q4
      exact wpAny_bind (thn q4 fun _ s5 q5=>wpAny_pure q5)
def bdMore (X:Cx) (a:Addr) (elt:Expr) (gens:List Comprehension) (scope:Scope) (pos:Pos) (d:Nat) (iter':Expr):BdT:=fun P E s=>
  wpAny (model X.prog X.w) X.A (eval iter' X.env) (fun x s5=>wpAny (model X.prog X.w) X.A (pyIter x) (fun i' s6=>
    codeAny (model X.prog X.w) X.A (.compStart (.ListComp elt gens scope pos) (d+1) i' (.ref a) X.env) (fun r s7=>match r with | .ok _=>P s7 | .error e=>cameBackBy (model X.prog X.w) X.A X.env E e s7) s6) E s5) E s
theorem tw_more (h:gens[d]?=some ⟨tg,iter,ifs,0⟩) (h2:gens[d+1]?=some ⟨tg',iter',ifs',0⟩) (hs:∀ x,foldedSetIterable iter' X.env x=pure x) (s:Shared) (Q:Fin→Shared→Prop) (E:Value→Shared→Prop)
    (hw:wpAny (model X.prog X.w) X.A (pyNext (.ref it)) (fun r s1=>match r with
        | none=>Q (.done .next) s1
        | some v=>wpAny (model X.prog X.w) X.A (letOwnedTupleGo tg (.ref it) v) (fun _ s2=>wpAny (model X.prog X.w) X.A (assign tg X.env v) (fun _ s3=>
            wpAny (model X.prog X.w) X.A (forIn ifs true fun c r=>if r=true then do let ok ← isTrue c X.env (eval c X.env);pure (ForInStep.yield ok) else pure (ForInStep.yield r)) (fun ok s4=>
              if ok=true then bdMore X a elt gens scope pos d iter' (fun s5=>Q (.again (.compLoop (.ListComp elt gens scope pos) d (.ref it) (.ref a) X.env)) s5) E s4 else Q (.again (.compLoop (.ListComp elt gens scope pos) d (.ref it) (.ref a) X.env)) s4) E s3) E s2) E s1) E s) :
    wpAny (model X.prog X.w) X.A (compTurn (.ListComp elt gens scope pos) d (.ref it) (.ref a) X.env) Q E s:=by
  rw [turn_more h h2]
  refine wpAny_bind (wpAny_standAt (wpAny_bind (thn hw fun r s1 q1=>?_)))
  cases r with
  | none=>exact wpAny_pure q1
  | some v=>
    refine wpAny_bind (thn q1 fun _ s2 q2=>wpAny_bind (thn q2 fun _ s3 q3=>wpAny_bind (thn q3 fun ok s4 q4=>?_)))
    cases ok with
    | false=>exact wpAny_pure (show Q (.again (.compLoop (.ListComp elt gens scope pos) d (.ref it) (.ref a) X.env)) s4 from by rw [if_neg (by simp)] at q4;exact q4)
    | true=>
      rw [if_pos rfl] at q4
      refine wpAny_bind (thn q4 fun x s5 q5=>wpAny_bind (wpAny_standAt (wpAny_bind (wpAny_of_eq (hs x) (wpAny_bind (wpAny_holding (thn q5 fun i' s6 q6=>?_)))))))
      refine wpAny_bind (wpAny_runOwn (codeAny_mono q6 fun r s7 q7=>?_))
      cases r with
      | ok f=>exact wpAny_pure q7
      | error e=>exact q7
def moreF (fi:Fi) (is:List Nat) (t:Ft) (c:Fb) (k:En→Option (List D)):En→Option (List D):=fun env=>(fi env).bind fun ds=>if unAll is env=true then goF t c k env ds else none
theorem act_more {fi:Fi} {is:List Nat} {t:Ft} {c:Fb} {k:En→Option (List D)} {Bd:BdT} (hx:∀ e s,¬ X.xe e s) (hcalm:X.calm=true) (h2:gens[d+1]?=some ⟨tg',iter',ifs',0⟩)
    (hi:ID X tg' iter' fi) (hg:GD X tg' t) (ht:TgOk is t) (hts:TsD X ifs' c) (hact:Act X a Bd k)
    (htw:∀ (it:Addr) (s:Shared) (Q:Fin→Shared→Prop) (E:Value→Shared→Prop),
      wpAny (model X.prog X.w) X.A (pyNext (.ref it)) (fun r s1=>match r with
        | none=>Q (.done .next) s1
        | some v=>wpAny (model X.prog X.w) X.A (letOwnedTupleGo tg' (.ref it) v) (fun _ s2=>wpAny (model X.prog X.w) X.A (assign tg' X.env v) (fun _ s3=>
            wpAny (model X.prog X.w) X.A (forIn ifs' true fun c r=>if r=true then do let ok ← isTrue c X.env (eval c X.env);pure (ForInStep.yield ok) else pure (ForInStep.yield r)) (fun ok s4=>
              if ok=true then Bd (fun s5=>Q (.again (.compLoop (.ListComp elt gens scope pos) (d+1) (.ref it) (.ref a) X.env)) s5) E s4 else Q (.again (.compLoop (.ListComp elt gens scope pos) (d+1) (.ref it) (.ref a) X.env)) s4) E s3) E s2) E s1) E s→
      wpAny (model X.prog X.w) X.A (compTurn (.ListComp elt gens scope pos) (d+1) (.ref it) (.ref a) X.env) Q E s) :
    Act X a (bdMore X a elt gens scope pos d iter') (moreF fi is t c k):=by
  intro pins s σ H B Z env pre xs P E Ac e hl hP
  obtain ⟨ds,e1,e2⟩:=Option.bind_eq_some_iff.mp e
  have hu:unAll is env=true:=by
    by_cases hu:unAll is env=true
    · exact hu
    · rw [if_neg hu] at e2;cases e2
  rw [if_pos hu] at e2
  refine wpAny_mono (hi pins s σ H (fun J H1=>∃ Z1,Ex Z H Z1 H1∧Walk X.K Z1 ds J) Ac.I ⟨env,B,Z,ds,Ac.R,e1,fun J Z1 H1 x1 wk=>⟨Z1,x1,wk⟩⟩) (fun x s5 q5=>?_) fun e s z=>(hx e s z).elim
  refine wpAny_mono q5 (fun i' s6 hq_=>?_) fun e s z=>(hx e s z).elim
  obtain ⟨it,fp,tn,J,H6,hit,I6,T,tn6,fp6,Z6,x6,wk⟩:=hq_
  subst hit
  obtain ⟨vs,hv,rr⟩:=Ac.ac
  have hne:H a≠none:=by rw [hv];simp
  have A6:AcIn X pins a B Z6 H6 env σ pre s6:=⟨I6,Ac.R.ext x6,Ac.nO,Ac.hb,x6.fr a hne Ac.hz,vs,x6.h _ _ hv,Reps.mono x6.z pre rr⟩
  have go:=comp_loop (a:=a) hx hcalm T hg ht hts hact (htw it) A6 fp6 tn6 wk hu e2 hl
    (R:=fun r s7=>match r with | .ok _=>P s7 | .error e=>cameBackBy (model X.prog X.w) X.A X.env E e s7)
    fun s' σ' H' Z' A' x' _=>hP s' σ' H' Z' A' ((x6.part Ac.R.bh).transB x')
  exact start_list h2 go (T.self _ 0 _ _ _ tn6 go)
end
end Mi
namespace Mi
open PySem PySem.Spec PyProof.Rows L2
structure Blk (X:Cx) (a:Addr) (elt:Expr) (gens:List Comprehension) (scope:Scope) (pos:Pos) (d:Nat) (tg:Expr) (ifs:List Expr) (t:Ft) (c:Fb) (k:En→Option (List D)):Prop where
  g:GD X tg t
  ts:TsD X ifs c
  ex:∃ Bd,Act X a Bd k∧∀ (it:Addr) (s:Shared) (Q:Fin→Shared→Prop) (E:Value→Shared→Prop),
      wpAny (model X.prog X.w) X.A (pyNext (.ref it)) (fun r s1=>match r with
        | none=>Q (.done .next) s1
        | some v=>wpAny (model X.prog X.w) X.A (letOwnedTupleGo tg (.ref it) v) (fun _ s2=>wpAny (model X.prog X.w) X.A (assign tg X.env v) (fun _ s3=>
            wpAny (model X.prog X.w) X.A (forIn ifs true fun c r=>if r=true then do let ok ← isTrue c X.env (eval c X.env);pure (ForInStep.yield ok) else pure (ForInStep.yield r)) (fun ok s4=>
              if ok=true then Bd (fun s5=>Q (.again (.compLoop (.ListComp elt gens scope pos) d (.ref it) (.ref a) X.env)) s5) E s4 else Q (.again (.compLoop (.ListComp elt gens scope pos) d (.ref it) (.ref a) X.env)) s4) E s3) E s2) E s1) E s→
      wpAny (model X.prog X.w) X.A (compTurn (.ListComp elt gens scope pos) d (.ref it) (.ref a) X.env) Q E s
section
variable {X:Cx} {a:Addr} {elt:Expr} {gens:List Comprehension} {scope:Scope} {pos:Pos} {d:Nat} {tg iter tg' iter':Expr} {ifs ifs':List Expr} {t t':Ft} {c c':Fb} {k:En→Option (List D)} {fe:Fe} {fi:Fi} {is:List Nat}
theorem blk_last (hx:∀ e s,¬ X.xe e s) (hg:GD X tg t) (hts:TsD X ifs c) (he:PD X .cl elt fe) (h:gens[d]?=some ⟨tg,iter,ifs,0⟩:=by rfl) (h2:gens[d+1]?=none:=by rfl):Blk X a elt gens scope pos d tg ifs t c (emitF fe):=
  ⟨hg,hts,_,act_emit hx he,fun it s Q E hw=>tw_last h h2 s Q E hw⟩
theorem blk_more (hx:∀ e s,¬ X.xe e s) (hcalm:X.calm=true) (hg:GD X tg t) (hts:TsD X ifs c) (hi:ID X tg' iter' fi) (ht:TgOk is t') (b:Blk X a elt gens scope pos (d+1) tg' ifs' t' c' k)
    (h:gens[d]?=some ⟨tg,iter,ifs,0⟩:=by rfl) (h2:gens[d+1]?=some ⟨tg',iter',ifs',0⟩:=by rfl) (hs:∀ x,foldedSetIterable iter' X.env x=pure x:=by intro _;rfl):Blk X a elt gens scope pos d tg ifs t c (moreF fi is t' c' k):=by
  obtain ⟨Bd,hact,htw⟩:=b.ex
  exact ⟨hg,hts,_,act_more hx hcalm h2 hi b.g ht b.ts hact htw,fun it s Q E hw=>tw_more h h2 hs s Q E hw⟩
end
def compF (fi:Fi) (is:List Nat) (t:Ft) (c:Fb) (k:En→Option (List D)) (n:Nat) (caps:List Nat):Fe:=fun env=>(fi env).bind fun ds=>if unAll is (capE n caps env)=true then (goF t c k (capE n caps env) ds).bind fun xs=>if xs.length≤16000000 then some (.lst xs) else none else none
theorem compF_some {fi:Fi} {is:List Nat} {t:Ft} {c:Fb} {k:En→Option (List D)} {n:Nat} {caps:List Nat} {env:En} {d:D} (h:compF fi is t c k n caps env=some d) :
    ∃ ds xs,fi env=some ds∧unAll is (capE n caps env)=true∧goF t c k (capE n caps env) ds=some xs∧xs.length≤16000000∧d=.lst xs:=by
  obtain ⟨ds,e1,e2⟩:=Option.bind_eq_some_iff.mp h
  by_cases hu:unAll is (capE n caps env)=true
  · rw [if_pos hu] at e2
    obtain ⟨xs,e3,e4⟩:=Option.bind_eq_some_iff.mp e2
    obtain ⟨e5,e6⟩:=ifS e4
    exact ⟨ds,xs,e1,hu,e3,e5,e6.symm⟩
  · rw [if_neg hu] at e2;cases e2
theorem capE_noO (n:Nat) (caps:List Nat) (env:En):∀ (i:Nat) ds,(capE n caps env)[i]?≠some (.O ds):=fun i ds h=>by
  unfold capE at h
  by_cases hi:i<n
  · rw [List.getElem?_append_left (by simpa using hi),List.getElem?_replicate,if_pos hi] at h;cases h
  · rw [List.getElem?_append_right (by simpa using hi),List.getElem?_map] at h
    cases q:caps[i-(List.replicate n Slot.un).length]? with
    | none=>rw [q] at h;cases h
    | some j=>
      rw [q] at h
      simp only [Option.map_some,Option.some.injEq] at h
      split at h<;>cases h
theorem Rl.cap {K:Fg} {B Z H H':Hp} {env:En} {σ:L2.St} (R:Rl K B Z H env σ) (n:Nat) (caps:List Nat) (s1:Same H H') (s2:Same Z H'):Rl K H Z H' (capE n caps env) (capS n caps σ):=by
  refine ⟨s1,s2,by simp [capE,capS],fun i s h=>?_,fun i ds a h=>absurd h (capE_noO n caps env i ds),fun i j ds es a _ h=>absurd h (capE_noO n caps env i ds)⟩
  unfold capE at h
  unfold capS
  by_cases hi:i<n
  · rw [List.getElem?_append_left (by simpa using hi),List.getElem?_replicate,if_pos hi] at h ⊢
    cases h
    exact ⟨none,rfl,trivial⟩
  · rw [List.getElem?_append_right (by simpa using hi),List.getElem?_map] at h ⊢
    simp only [List.length_replicate] at h ⊢
    cases q:caps[i-n]? with
    | none=>rw [q] at h;cases h
    | some j=>
      rw [q] at h
      simp only [Option.map_some,Option.some.injEq] at h ⊢
      refine ⟨_,rfl,?_⟩
      split at h
      · rename_i dd hj
        subst h
        obtain ⟨x,h1,v,h2,r⟩:=R.sl j _ hj
        rw [h1,h2]
        exact ⟨v,rfl,r⟩
      · subst h;trivial
section
variable {X:Cx} {elt:Expr} {rest:List Comprehension} {scope:Scope} {pos:Pos} {tg iter:Expr} {ifs:List Expr} {t:Ft} {c:Fb} {k:En→Option (List D)} {fi:Fi} {is caps:List Nat} {cl:List (Str×Addr)} {Nc own:List Str}
theorem comp_core (ht:TgOk is t) (hcalm:X.calm=true) (hcl:clOf (fun x=>X.env.cells.lookup x) scope.names []=some cl) (hkind:scope.kind=.function) (hnc:∀ y∈scope.names,y.2≠.cell)
    (hN:Nc.map some=own.map some++caps.map (fun j=>X.N[j]?)) (hcap:capOk X scope caps=true)
    (hb:∀ C s H ex pn a,Blk (compCx X scope cl Nc C s H ex pn) a elt (⟨tg,iter,ifs,0⟩::rest) scope pos 0 tg ifs t c k)
    {pins:List (Addr×Obj)} {σ:L2.St} {s2:Shared} {H2 B Z2:Hp} {env:En} {ds xs:List D} {E:Value→Shared→Prop} {RR:Value→Addr→Result→Shared→Prop} {it:Addr} {fp:List Addr} {tn:Nat→Heap→Prop} {J:It}
    (I2:Inv X pins σ H2 s2) (R2:Rl X.K B Z2 H2 env σ) (T:Turn X.prog X.w X.K tg J fp it tn) (tn2:tn 0 s2.heap) (fp2:∀ b∈fp,FpOk X pins H2 b) (wk:Walk X.K Z2 ds J) (hu:unAll is (capE own.length caps env)=true)
    (hgo:goF t c k (capE own.length caps env) ds=some xs) (hl:xs.length≤16000000)
    (hRR:∀ a C H' Z' s' vs m,Inv X pins σ H' s'→s'.heap.Ns C m→FpOk X pins H' C→Ex Z2 H2 Z' H'→H2 a=none→H' a=some (.lst vs)→Z' a=none→Reps X.K Z' xs vs→RR (.ref a) C (.ok .next) s') :
    wpAny (model X.prog X.w) X.A (newList []) (fun acc s₃=>wpAny (model X.prog X.w) X.A (newFunctionEnv scope X.env.globals cl [] X.env.qual none .none (some X.env)) (fun cenv s₄=>
      codeAny (model X.prog X.w) X.A (.compStart (.ListComp elt (⟨tg,iter,ifs,0⟩::rest) scope pos) 0 (.ref it) acc { cenv with scope:=relabel scope X.env }) (RR acc cenv.locals) s₄) E s₃) E s2:=by
  refine wpAny_newObj_type ?_ (by size_fits)
  have hf:H2 s2.heap.objs.size=none:=I2.hok.fresh (Nat.le_refl _)
  have I3:Inv X pins σ (upd H2 s2.heap.objs.size (.lst [])) { s2 with heap:=s2.heap.push { cls:=.type "list",dict:=none,data:=.seq ([]:List Value).toArray } }:=
    I2.laid (t':=s2.toks) (fun b u e=>Heap.get?_push_of_some _ e) (Nat.le_refl _) (show ObjOk X.prog X.w _ _ _ (.lst []) from ⟨by simp,[],0,.nil,Heap.get?_push_size _ rfl⟩)
  generalize hs3:({ s2 with heap:=s2.heap.push { cls:=.type "list",dict:=none,data:=.seq ([]:List Value).toArray } }:Shared)=s3 at I3 ⊢
  have k23:∀ b o,s2.heap.get? b=some o→s3.heap.get? b=some o:=fun b o e=>by rw [← hs3];exact Heap.get?_push_of_some _ e
  have sz3:s3.heap.objs.size=s2.heap.objs.size+1:=by rw [← hs3];exact Heap.size_push _ _
  have hfl:∀ b∈fp,b<s2.heap.objs.size:=fun b hb=>let ⟨o,e,_⟩:=T.obj _ _ tn2 b hb;Heap.lt_size e
  have fp3:∀ b∈fp,FpOk X pins (upd H2 s2.heap.objs.size (.lst [])) b:=fun b hb=>⟨by rw [upd_ne (Nat.ne_of_lt (hfl b hb))];exact (fp2 b hb).1,(fp2 b hb).2⟩
  refine wpAny_newFunctionEnv hnc (by intro y hy;simp at hy) (fun h1 hns hsb=>?_) hkind
  have k34:∀ b o,s3.heap.get? b=some o→h1.get? b=some o:=fun b o e=>hsb.extBut b o (Nat.ne_of_lt (Heap.lt_size e)) (Heap.get?_push_of_some _ e)
  have I4:=comp_inv (tk:=s3.toks+([]:List (Str×Value)).length) I3 hcl hkind hnc fp3 (fun b hb=>by rw [sz3];exact Nat.lt_succ_of_lt (hfl b hb)) hN hcap hns k34
  generalize hXc:compCx X scope cl Nc s3.heap.objs.size s3 (upd H2 s2.heap.objs.size (.lst [])) fp (X.pn++pins)=Xc at I4
  have bb:Blk Xc s2.heap.objs.size elt (⟨tg,iter,ifs,0⟩::rest) scope pos 0 tg ifs t c k:=by rw [← hXc];exact hb _ _ _ _ _ _
  obtain ⟨Bd,hact,htw⟩:=bb.ex
  have eP:Xc.prog=X.prog:=by rw [← hXc];rfl
  have eW:Xc.w=X.w:=by rw [← hXc];rfl
  have eK:Xc.K=X.K:=by rw [← hXc];rfl
  have eA:Xc.A=X.A:=by rw [← hXc];rfl
  have eE:Xc.env=compEnvC scope cl s3.heap.objs.size X.env:=by rw [← hXc];rfl
  have hx:∀ e s,¬ Xc.xe e s:=fun e s z=>by rw [← hXc] at z;exact z
  have hcc:Xc.calm=true:=by rw [← hXc];exact hcalm
  have T':Turn Xc.prog Xc.w Xc.K tg J fp it tn:=by rw [eP,eW,eK];exact T
  have A4:AcIn Xc [] s2.heap.objs.size H2 Z2 (upd H2 s2.heap.objs.size (.lst [])) (capE own.length caps env) (capS own.length caps σ) [] { s3 with heap:=h1,toks:=s3.toks+([]:List (Str×Value)).length }:=
    ⟨I4,by rw [eK];exact R2.cap _ _ (smUpd hf) (smUpdR R2.zh (R2.zh.free hf)),capE_noO _ _ _,hf,R2.zh.free hf,[],upd_same,rfl⟩
  have fp4:∀ b∈fp,FpOk Xc [] (upd H2 s2.heap.objs.size (.lst [])) b:=fun b hb=>by
    obtain ⟨f1,f2,f3,f4,f5,f6⟩:=fp3 b hb
    have mem:=clOf_mem hcl (fun p hp=>by cases hp)
    rw [← hXc]
    refine ⟨f1,?_,frs_stack I3 f2 f3,.inl hb,fun x c h=>f5 x c (mem (x,c) (PySem.mem_of_lookup h)),fun p hp=>f6 p (by simpa [compCx] using hp)⟩
    show b≠s3.heap.objs.size
    rw [sz3]
    exact Nat.ne_of_lt (Nat.lt_succ_of_lt (hfl b hb))
  have tn4:tn 0 ({ s3 with heap:=h1,toks:=s3.toks+([]:List (Str×Value)).length }:Shared).heap:=T.keep _ _ _ tn2 fun b _ o e=>k34 b o (k23 b o e)
  have go:=comp_loop (a:=s2.heap.objs.size) hx hcc T' bb.g ht bb.ts hact (htw it) A4 fp4 tn4 (by rw [eK];exact wk) hu hgo (by simpa using hl) (R:=RR (.ref s2.heap.objs.size) s3.heap.objs.size) fun s' σ' H' Z' A' x' fr'=>by
    obtain ⟨vs,hv,rr⟩:=A'.ac
    have base:=A'.I.base
    obtain ⟨mC,nsC,_⟩:=A'.I.loc
    have hok:=A'.I.hok
    have hos:=A'.I.os
    have free:=A'.I.free
    rw [eE] at nsC free
    rw [eP,eW] at hok
    rw [eK] at rr
    have u1:Un (frs X.stack) fp H2 (upd H2 s2.heap.objs.size (.lst [])) s2.heap s3.heap:=Un.laid k23 (Nat.le_refl _) hf
    have u2:Un (frs X.stack) fp (upd H2 s2.heap.objs.size (.lst [])) H' s3.heap s'.heap:=by rw [← hXc] at base;exact base
    have hos':s'.os=s2.os:=by rw [← hXc] at hos;exact hos.trans (by rw [← hs3];rfl)
    have I':Inv X pins σ H' s':=I2.call' hos' (u1.trans u2) hok A'.I.bare fun b hb=>⟨(fp2 b hb).2.2.2.1,(fp2 b hb).2.1,(fp2 b hb).2.2.2.2.1,(fp2 b hb).2.2.2.2.2⟩
    exact hRR s2.heap.objs.size s3.heap.objs.size H' Z' s' vs mC I' nsC (I3.fpOk (Nat.le_refl _) free) x' hf hv A'.hz (by simpa using rr)
  rw [eP,eW,eA,eE] at go
  exact start_list rfl go (T.self _ 0 _ _ _ tn4 go)
theorem m_comp (ht:TgOk is t) (hcalm:X.calm=true) (hi:ID X tg iter fi) (hcl:clOf (fun x=>X.env.cells.lookup x) scope.names []=some cl) (hN:Nc.map some=own.map some++caps.map (fun j=>X.N[j]?))
    (hb:∀ C s H ex pn a,Blk (compCx X scope cl Nc C s H ex pn) a elt (⟨tg,iter,ifs,0⟩::rest) scope pos 0 tg ifs t c k)
    (hcap:capOk X scope caps=true:=by rfl) (hkind:scope.kind=.function:=by rfl) (hnc:∀ y∈scope.names,y.2≠.cell:=by decide +kernel) (hnm:∀ x∈scope.names,x.2=.local→scope.names.lookup x.1=some .local:=by decide +kernel)
    (hs:∀ x,foldedSetIterable iter X.env x=pure x:=by intro _;rfl) :
    PD X .nw (.ListComp elt (⟨tg,iter,ifs,0⟩::rest) scope pos) (compF fi is t c k own.length caps):=by
  intro pins s σ H Q I hT
  obtain ⟨env,B,Z,d,R,e,kk⟩:=hT
  obtain ⟨ds,xs,e1,hu,hgo,hl,rfl⟩:=compF_some e
  rw [eval_ListComp]
  refine wpAny_comprehension_free (use:=none) rfl hs (closure_of hcl) hkind hnm ?_
  refine thn (hi pins s σ H (fun J H1=>∃ Z1,Ex Z H Z1 H1∧Walk X.K Z1 ds J) I ⟨env,B,Z,ds,R,e1,fun J Z1 H1 x1 wk=>⟨Z1,x1,wk⟩⟩) fun x s1 q1=>thn q1 fun itv s2 hq_=>?_
  obtain ⟨it,fp,tn,J,H2,hit,I2,T,tn2,fp2,Z2,x2,wk⟩:=hq_
  subst hit
  refine comp_core ht hcalm hcl hkind hnc hN hcap hb I2 (R.ext x2) T tn2 fp2 wk hu hgo hl (RR:=fun acc C=>compPost (model X.prog X.w) X.A X.xe none (EP X pins σ Q) acc C) fun a C H' Z' s' vs m I' ns fpC x' hf hv hz rr=>?_
  refine ⟨m,ns,fun h' hs'=>?_⟩
  obtain ⟨f1,f2,f3,f4,f5,f6⟩:=fpC
  refine ⟨.ref a,H',I'.turned (t':=s'.toks) (it:=C) (fun b o hb e=>hs'.extBut b o hb e) f1 f2.symm.symm f4 f5 f6,rfl,kk _ Z' H' (x2.trans x') ⟨a,vs,xs,rfl,rfl,x2.h.free hf,hv,hz,rr⟩⟩
end
end Mi
namespace Mi
open PySem PySem.Spec PyProof.Rows L2
section
variable {P:Program} {w:World} {A:Around} {E:Value→Shared→Prop}
theorem drawL {it l:Addr} {items:Array Value} (hne:l≠it):∀ (n i:Nat) (s:Shared) (Q:List Value→Shared→Prop),s.heap.IsListIter it l i→s.heap.IsList l items→i+n≤items.size→
    (∀ h',h'.IsListIter it l (i+n)→Heap.SameBut it s.heap h'→Q ((items.toList.drop i).take n) { s with heap:=h' })→wpAny (model P w) A (draw (.ref it) n) Q E s:=by
  intro n
  induction n with
  | zero=>intro i s Q hit hl hle hQ;exact wpAny_pure (show Q [] s from by simpa using hQ s.heap (by simpa using hit) (Heap.SameBut.refl ..))
  | succ n ih=>
    intro i s Q hit hl hle hQ
    have hlt:i<items.size:=by omega
    refine (show wpAny (model P w) A (pyNext (.ref it) >>= _) Q E s from wpAny_bind (wpAny_pyNext_list_item hit hl (x:=items[i]) (by simp [hlt]) fun h1 hit1 hs1=>?_))
    refine wpAny_bind (wpAny_holding (ih (i+1) _ _ hit1 (hl.extBut hs1.extBut hne) (by omega) fun h2 hit2 hs2=>wpAny_pure ?_))
    have q:=hQ h2 (by rw [show i+(n+1)=i+1+n by omega];exact hit2) (hs1.trans hs2)
    have hd:items.toList.drop i=items[i]::items.toList.drop (i+1):=by simp [List.drop_eq_getElem_cons,hlt]
    rw [hd,List.take_succ_cons] at q
    exact q
theorem unpackL {l:Addr} {items:Array Value} {s:Shared} {Q:List Value→Shared→Prop} (hh:A.handled=none) (hl:s.heap.IsList l items) (hQ:∀ h',Heap.ExtBut s.heap.objs.size s.heap h'→Q items.toList { s with heap:=h' }) :
    wpAny (model P w) A (unpackItems (.ref l) items.size none) Q E s:=by
  have hlt:l≠s.heap.objs.size:=by obtain ⟨o,ho,_⟩:=hl;exact Nat.ne_of_lt (Heap.lt_size ho)
  unfold unpackItems
  refine wpAny_bind (m:=notIterableAtAll (.ref l)) ?_
  · unfold notIterableAtAll
    refine wpAny_bind (wpAny_specialOf hl.typeIs PySem.slot_list_iter.lookup (wpAny_pure ?_))
    simp only [Bool.false_eq_true,if_false]
    have hl1:(s.heap.push { cls:=.type "list_iterator",data:=.fields #[.ref l,rawInt 0] }).IsList l items:=by obtain ⟨o,ho,r⟩:=hl;exact ⟨o,Heap.get?_push_of_some _ ho,r⟩
    refine wpAny_bind (wpAny_holding (wpAny_pyIter_list hl (wpAny_bind (wpAny_holding (drawL hlt items.size 0 _ _ ⟨_,Heap.get?_push_size _ rfl,rfl,rfl⟩ hl1 (by omega) fun h1 hit1 hs1=>?_)))))
    have hall:((items.toList.drop 0).take items.size)=items.toList:=by rw [List.drop_zero];exact List.take_of_length_le (by simp)
    rw [hall,if_neg (by simp)]
    refine wpAny_bind (wpAny_holding (wpAny_pyNext_list_end hh hit1 (hl1.extBut hs1.extBut hlt) (by simp) fun h2 he2=>?_))
    simp only [Option.isSome_none,Bool.false_eq_true,if_false]
    exact wpAny_pure (hQ h2 fun b o hb e=>he2 b o hb (hs1.extBut b o hb (Heap.get?_push_of_some _ e)))
end
section
variable {X:Cx} {rg:Gr}
def gLst (K:PySem.W.Frag) (n:Nat) (t:TGs):TG:=fun v σ H Q=>∃ a xs,v=.ref a∧SqL K H a xs∧xs.length=n∧t xs σ H Q
theorem pg_lst {es:List Expr} {k:Nat} {t:TGs} {n:Nat} {pos:Pos} (hc:X.calm=true) (h:PGs X es t) (hn:(assignEach es X.env).length=n:=by rfl) (hst:(assignEach es X.env).findIdx? (·.1)=none:=by rfl):PG X (.Tuple es k pos) (gLst X.K n t):=by
  intro pins s σ H v u Q I r hw
  obtain ⟨a,xs,e1,hq,hl,hw⟩:=hw
  subst e1
  cases r
  obtain ⟨its,rv,pl,hz⟩:=I.list hq
  have hlen:=rv.length
  rw [PyProof.Rows.assign_Tuple]
  refine wpAny_bind (wpAny_standAt ?_)
  unfold unpack
  rw [hst,hn,show n=its.toArray.size by rw [List.size_toArray];omega]
  refine wpAny_bind (wpAny_holding (unpackL (I.ok.hd hc) pl.isList fun h' hx=>?_))
  have I1:Inv X pins σ H { s with heap:=h' }:=I.kept (t':=s.toks) fun b o e=>hx b o (Nat.ne_of_lt (Heap.lt_size e)) e
  exact h pins _ σ H xs _ Q I1 (by simpa using rv) hw
def tgL (is:List Nat):Ft:=fun d env=>match d with
  | .lst ds=>setAll is ds env
  | _=>none
theorem g_lst {es:List Expr} {is:List Nat} {k:Nat} {pos:Pos} (hc:X.calm=true) (h:GsD X es is) (hn:(assignEach es X.env).length=is.length:=by rfl) (hst:(assignEach es X.env).findIdx? (·.1)=none:=by rfl):GD X (.Tuple es k pos) (tgL is):=
  PG.imp (pg_lst hc h hn hst) fun v σ H Q hq_=>by
    obtain ⟨env,B,Z,d,env',R,r,e,k⟩:=hq_
    cases d<;>try cases e
    rename_i ds
    obtain ⟨a,vs,e1,hq,rr⟩:=r
    exact ⟨a,vs,e1,R.zh.seq hq,by rw [← rr.len];exact setAll_len e,env,B,Z,ds,env',R,rr,e,k⟩
def unL (is:List Nat) (f:Fe):Fs:=fun env=>(f env).bind fun d=>(tgL is d env).bind fun e=>some (.nx e)
theorem s_unL {e:Expr} {es:List Expr} {is:List Nat} {fe:Fe} {k:Nat} {pos p2:Pos} (hc:X.calm=true) (he:PD X .cl e fe) (h:GsD X es is) (hn:(assignEach es X.env).length=is.length:=by rfl) (hst:(assignEach es X.env).findIdx? (·.1)=none:=by rfl)
    (hs:swapsWithSole [.Tuple es k p2] e pos.line X.env=pure false:=by rfl) (hw:swappedStores [.Tuple es k p2] e X.env=pure none:=by rfl) (h1:(assignEach [.Tuple es k p2] X.env).map (·.2)=[assign (.Tuple es k p2) X.env]:=by rfl) :
    SD X rg (.Assign [.Tuple es k p2] e pos) (unL is fe):=PS.imp (ps_asg he (g_lst hc h hn hst) hs hw h1) fun E σ H hq_=>by
  obtain ⟨env,B,Z,o,R,e,k⟩:=hq_
  obtain ⟨d,e1,e⟩:=Option.bind_eq_some_iff.mp e
  obtain ⟨en,e2,e⟩:=Option.bind_eq_some_iff.mp e
  cases e
  refine ⟨env,B,Z,d,R,e1,fun v Z1 H1 x1 g1=>⟨env,B,Z1,d,en,R.ext x1,g1,e2,fun σ' R'=>k σ' Z1 H1 (x1.part R.bh) R'⟩⟩
variable {l r:Expr} {fa fb:Fe} {ga gb:Gr} {pos p:Pos}
theorem op_addL:OpR X (binaryOp .Add) (fun x y H Q=>∃ l b xs zs,x=.ref l∧y=.ref b∧SqL X.K H l xs∧SqL X.K H b zs∧xs.length+zs.length≤sizeLine∧∀ p,H p=none→Q (.ref p) (upd H p (.lst (xs++zs)))):=by
  intro pins s σ H x y v u Q I rx ry h
  obtain ⟨l,b,xs,zs,rfl,rfl,hH,hB,hz,q⟩:=h
  cases rx
  cases ry
  obtain ⟨its,r,⟨o,n,e,c1,c2,c3⟩,_⟩:=I.list hH
  obtain ⟨its2,r2,⟨o2,n2,e2,d1,d2,d3⟩,_⟩:=I.list hB
  obtain ⟨cls,dd,dt,sl⟩:=o
  obtain ⟨cls2,dd2,dt2,sl2⟩:=o2
  simp only at c1 c2 c3 d1 d2 d3
  subst c1 c2 c3 d1 d2 d3
  have h1:=r.length
  have h2:=r2.length
  have hsz:its.toArray.size+its2.toArray.size≤sizeLine:=by simp only [List.size_toArray];omega
  refine concat_meets ⟨_,e,rfl⟩ ⟨_,e2,rfl⟩ noFill_list_add seq_list_add PySem.F.slot_list_add PySem.F.entry_list_add (PySem.F.args_list_add_2 _ _) (list_addW l b its.toArray its2.toArray n n2 none none sl sl2 hsz) ⟨e,e2,?_⟩
  rw [show its.toArray++its2.toArray=(its++its2).toArray by simp]
  exact ⟨.ref _,_,I.lnew (t':=s.toks) (r.append r2) (by rw [List.length_append];omega),rfl,q _ I.fresh⟩
theorem m_addL (ha:PD X ga l fa) (hb:PD X gb r fb):PD X .nw (.BinOp l .Add r pos) (op2 addL fa fb):=m_op op_addL d_addL ha hb
end
section
variable {X:Cx} {rg:Gr} {elt:Expr} {rest:List Comprehension} {scope:Scope} {pos spos py:Pos} {tg iter:Expr} {ifs:List Expr} {t:Ft} {c:Fb} {k:En→Option (List D)} {fi:Fi} {is caps:List Nat} {cl:List (Str×Addr)} {Nc own:List Str} {y:Str}
structure CompD (X:Cx) (e:Expr) (f:Fe):Prop where
  ex:∀ (y:Str) (py spos:Pos) (i:Nat),swapsWith e (some (.Name y py)) spos.line X.env=pure true→X.N.Nodup→X.N[i]?=some y→Loc X.env.scope y→(X.fn y=true∨X.env.scope.names.lookup y=some .local)→
    ∀ (pins:List (Addr×Obj)) (s:Shared) (σ:L2.St) (H:Hp) (E:Ends),Inv X pins σ H s→(∃ env B Z d,Rl X.K B Z H env σ∧f env=some d∧∀ v Z' H',Ex Z H Z' H'→Gd X.K Z' H H' .nw d v→E.nx (σ.set i (some v)) H')→
      wpAny (model X.prog X.w) X.A (exec (.Assign [.Name y py] e spos) X.env) (SP X pins E) X.xe s
theorem c_comp (ht:TgOk is t) (hcalm:X.calm=true) (hi:ID X tg iter fi) (hcl:clOf (fun x=>X.env.cells.lookup x) scope.names []=some cl) (hN:Nc.map some=own.map some++caps.map (fun j=>X.N[j]?))
    (hb:∀ C s H ex pn a,Blk (compCx X scope cl Nc C s H ex pn) a elt (⟨tg,iter,ifs,0⟩::rest) scope pos 0 tg ifs t c k)
    (hcap:capOk X scope caps=true:=by rfl) (hkind:scope.kind=.function:=by rfl) (hnc:∀ y∈scope.names,y.2≠.cell:=by decide +kernel) (hnm:∀ x∈scope.names,x.2=.local→scope.names.lookup x.1=some .local:=by decide +kernel)
    (hs:∀ x,foldedSetIterable iter X.env x=pure x:=by intro _;rfl) :
    CompD X (.ListComp elt (⟨tg,iter,ifs,0⟩::rest) scope pos) (compF fi is t c k own.length caps):=by
  refine ⟨fun y py spos j hsw hNd hj hy hf pins s σ H E I hT=>?_⟩
  obtain ⟨env,B,Z,d,R,e,kk⟩:=hT
  obtain ⟨ds,xs,e1,hu,hgo,hl,rfl⟩:=compF_some e
  rw [exec_Assign_Name_used _ _ _ _ hsw]
  refine wpAny_bind (wpAny_standAt (wpAny_bind ?_))
  refine (show wpAny (model X.prog X.w) X.A (comprehension (.ListComp elt (⟨tg,iter,ifs,0⟩::rest) scope pos) scope X.env (firstIterPos (⟨tg,iter,ifs,0⟩::rest) pos) (newList []) false (eval iter X.env) (some (assign (.Name y py) X.env)) >>= fun _=>pure ()) _ _ s from ?_)
  refine wpAny_bind (thn (wpAny_comprehension_free (use:=some (assign (.Name y py) X.env)) (Q:=fun _ s'=>SP X pins E .next s') rfl hs (closure_of hcl) hkind hnm ?_) fun _ s' hq=>wpAny_pure (wpAny_pure hq))
  refine thn (hi pins s σ H (fun J H1=>∃ Z1,Ex Z H Z1 H1∧Walk X.K Z1 ds J) I ⟨env,B,Z,ds,R,e1,fun J Z1 H1 x1 wk=>⟨Z1,x1,wk⟩⟩) fun x s1 q1=>thn q1 fun itv s2 hq_=>?_
  obtain ⟨it,fp,tn,J,H2,hit,I2,T,tn2,fp2,Z2,x2,wk⟩:=hq_
  subst hit
  refine comp_core ht hcalm hcl hkind hnc hN hcap hb I2 (R.ext x2) T tn2 fp2 wk hu hgo hl (RR:=fun acc C=>compPost (model X.prog X.w) X.A X.xe (some (assign (.Name y py) X.env)) (fun _ s'=>SP X pins E .next s') acc C) fun a C H' Z' s' vs m I' ns fpC x' hf' hv hz rr=>?_
  refine (show wpAny (model X.prog X.w) X.A (assign (.Name y py) X.env (.ref a)) _ _ s' from wpAny_assign_Name (store_ok2 I' hNd hj hy (show RelV (.ref a) (.ref a) from rfl) (fun s2' I2' hq_=>?_) hf))
  obtain ⟨b,hsb,hbb⟩:=hq_
  obtain ⟨f1,f2,f3,f4,f5,f6⟩:=fpC
  have hCb:C≠b:=fun z=>by
    rcases hbb with z2 | z2
    · exact f2 (z.trans z2)
    · exact f5 y b z2 z.symm
  refine ⟨m,ns.sameBut hsb hCb,fun h' hs'=>?_⟩
  exact ⟨_,H',I2'.turned (t':=s2'.toks) (it:=C) (fun b o hb e=>hs'.extBut b o hb e) f1 f2 f4 f5 f6,kk _ Z' H' (x2.trans x') ⟨a,vs,xs,rfl,rfl,x2.h.free hf',hv,hz,rr⟩⟩
variable {e:Expr} {fe:Fe}
theorem s_setC (i:Nat) (h:CompD X e fe) (hN:X.N.Nodup) (hi:X.N[i]?=some y:=by rfl) (hx:Loc X.env.scope y:=by first | exact Or.inl rfl | exact Or.inr rfl) (hsw:swapsWith e (some (.Name y py)) spos.line X.env=pure true:=by rfl)
    (hf:X.fn y=true∨X.env.scope.names.lookup y=some .local:=by first | exact .inl rfl | exact .inr rfl | assumption):SD X rg (.Assign [.Name y py] e spos) (setF i fe):=fun pins s σ H E I hw=>by
  obtain ⟨env,B,Z,o,R,e0,kk⟩:=hw
  obtain ⟨d,e1,e2⟩:=Option.bind_eq_some_iff.mp e0
  cases e2
  refine h.ex y py spos i hsw hN hi hx hf pins s σ H E I ⟨env,B,Z,d,R,e1,fun v Z' H' x g=>?_⟩
  obtain ⟨a,vs,ds,rfl,rfl,h1,h2,h3,r⟩:=g
  have s1:Same Z' (upd Z' a (.lst vs)):=smUpd h3
  have x2:Ex Z H (upd Z' a (.lst vs)) H':=⟨x.h,x.z.trans s1,smUpdL x.zh h2,fun b hb e=>by rw [upd_ne (fun z=>hb (by rw [z];exact h1))];exact x.fr b hb e⟩
  exact kk _ _ H' (x2.part R.bh) ((R.ext x2).setF i ⟨a,vs,rfl,SqL.of upd_same,Reps.mono s1 ds r⟩)
end
end Mi
namespace Mi
open PySem PySem.Spec PyProof.Rows L2
section
variable {X:Cx} {rg:Gr}
theorem s_par (i j:Nat) {x y:Str} {a b:Expr} {fs:Fes} {px py pt pos:Pos} {kt k2 pt2} (hc:X.calm=true) (hN:X.N.Nodup) (ha:PL X [a,b] fs) (hi:X.N[i]?=some x:=by rfl) (hj:X.N[j]?=some y:=by rfl) (hij:i≠j:=by decide)
    (hx:X.env.scope.names.lookup x=some .local:=by rfl) (hy:X.env.scope.names.lookup y=some .local:=by rfl)
    (hw:swappedStores [.Tuple [.Name x px,.Name y py] kt pt] (.Tuple [a,b] k2 pt2) X.env=pure (some [x,y]):=by rfl)
    (hs:swapsWithSole [.Tuple [.Name x px,.Name y py] kt pt] (.Tuple [a,b] k2 pt2) pos.line X.env=pure false:=by rfl) :
    SD X rg (.Assign [.Tuple [.Name x px,.Name y py] kt pt] (.Tuple [a,b] k2 pt2) pos) (unF [i,j] (fTup fs)):=PS.imp (ps_par hc hN hi hj hij hx hy ha.p hw hs) fun E σ H hq_=>by
  obtain ⟨env,B,Z,o,R,e,k⟩:=hq_
  obtain ⟨d,e1,e⟩:=Option.bind_eq_some_iff.mp e
  obtain ⟨ds,e0,e1⟩:=Option.bind_eq_some_iff.mp e1
  cases e1
  obtain ⟨en,e2,e⟩:=Option.bind_eq_some_iff.mp e
  cases e
  match ds,e2,e0 with
  | [d1,d2],e2,e0=>
    cases e2
    refine ⟨env,B,Z,_,R,e0,fun vs Z1 H1 x1 r=>?_⟩
    obtain ⟨v1,r1,rfl,q1,v2,r2,rfl,q2,rfl⟩:=r
    exact ⟨v1,v2,rfl,k _ Z1 H1 (x1.part R.bh) (((R.ext x1).setF i q1).setF j q2)⟩
end
end Mi
namespace Mi
open PySem L2
theorem big_of {i:Int} (n:Nat) (h:i.natAbs≤n) (hn:n<2 ^ 4096:=by decide +kernel):big i=true:=decide_eq_true (Nat.lt_of_le_of_lt h hn)
theorem big_in {i:Int} (h1:-1000000000≤i) (h2:i≤1000000000):big i=true:=big_of 1000000000 (by omega)
theorem mul_in {i j:Int} (h1:-1000000000≤i) (h2:i≤1000000000) (h3:-1000000000≤j) (h4:j≤1000000000):mulI (.int i) (.int j)=some (.int (i*j)):=by
  show (if (big i&&big j)=true then _ else _)=_
  rw [big_in h1 h2,big_in h3 h4];rfl
theorem mod_in {i j:Int} (h:0<j):modI (.int i) (.int j)=some (.int (i%j)):=by
  show (if decide (0<j)=true then _ else _)=_
  rw [decide_eq_true h];rfl
theorem fdiv_in {i j:Int} (h:0<j) (h2:j<1073741824):fdivI (.int i) (.int j)=some (.int (i/j)):=by
  show (if decide (0<j∧j<1073741824)=true then _ else _)=_
  rw [decide_eq_true (And.intro h h2)];rfl
theorem pow_in {i j:Int} (h:big i=true) (h2:0≤j) (h3:j≤1000):powI (.int i) (.int j)=some (.int (i ^ j.toNat)):=by
  show (if (big i&&decide (0≤j∧j≤1000))=true then _ else _)=_
  rw [h,decide_eq_true (And.intro h2 h3)];rfl
theorem mul_big {i j:Int} (h:big i=true) (h2:big j=true):mulI (.int i) (.int j)=some (.int (i*j)):=by
  show (if (big i&&big j)=true then _ else _)=_
  rw [h,h2];rfl
theorem add_v (i j:Int):addI (.int i) (.int j)=some (.int (i+j)):=rfl
theorem sub_v (i j:Int):subI (.int i) (.int j)=some (.int (i-j)):=rfl
theorem lt_v (i j:Int):ltI (.int i) (.int j)=some (.bl (decide (i<j))):=rfl
theorem le_v (i j:Int):leI (.int i) (.int j)=some (.bl (decide (i≤j))):=rfl
theorem gt_v (i j:Int):gtI (.int i) (.int j)=some (.bl (decide (j<i))):=rfl
theorem eq_v (i j:Int):eqF (.int i) (.int j)=some (.bl (i==j)):=rfl
theorem ne_v (i j:Int):neF (.int i) (.int j)=some (.bl !(i==j)):=rfl
theorem op2_v {b:D→D→Option D} {f g:Fe} {env:En} {x y:D} (h1:f env=some x) (h2:g env=some y):op2 b f g env=b x y:=by
  unfold op2;rw [h1,h2];rfl
theorem un1_v {b:D→Option D} {f:Fe} {env:En} {x:D} (h1:f env=some x):un1 b f env=b x:=by
  unfold un1;rw [h1];rfl
theorem abs_pow {x:Int} (n k:Nat) (h1:x.natAbs≤n):(x ^ k).natAbs≤n ^ k:=by
  rw [Int.natAbs_pow];exact Nat.pow_le_pow_left h1 k
theorem abs_add {x y:Int} (n m:Nat) (h1:x.natAbs≤n) (h2:y.natAbs≤m):(x+y).natAbs≤n+m:=by omega
theorem loop_all {t:Ft} {body:Fs} (I:En→Prop):∀ (ds:List D) (env:En),I env→(∀ d∈ds,∀ e,I e→∃ e1,(t d e).bind body=some (.nx e1)∧I e1)→∃ e2,loopF t body ds env=some (.nx e2)∧I e2
  | [],env,h,_=>⟨env,rfl,h⟩
  | d::ds,env,h,hb=>by
    obtain ⟨e1,h1,h2⟩:=hb d List.mem_cons_self env h
    obtain ⟨e2,h3,h4⟩:=loop_all I ds e1 h2 fun d' hd=>hb d' (List.mem_cons_of_mem _ hd)
    refine ⟨e2,?_,h4⟩
    obtain ⟨e0,h5,h6⟩:=Option.bind_eq_some_iff.mp h1
    show (t d env).bind (fun e1=>(body e1).bind _)=_
    rw [h5]
    show (body e0).bind _=_
    rw [h6]
    exact h3
theorem loop_at {t:Ft} {body:Fs} (I:Nat→En→Prop):∀ (ds:List D) (n:Nat) (env:En),I n env→(∀ i d e,ds[i]?=some d→I (n+i) e→∃ e1,(t d e).bind body=some (.nx e1)∧I (n+i+1) e1)→∃ e2,loopF t body ds env=some (.nx e2)∧I (n+ds.length) e2
  | [],n,env,h,_=>⟨env,rfl,h⟩
  | d::ds,n,env,h,hb=>by
    obtain ⟨e1,h1,h2⟩:=hb 0 d env rfl h
    obtain ⟨e2,h3,h4⟩:=loop_at I ds (n+1) e1 h2 fun i d' e hd he=>by
      have:=hb (i+1) d' e (by simpa using hd) (by rw [show n+(i+1)=n+1+i by omega];exact he)
      rw [show n+1+i+1=n+(i+1)+1 by omega]
      exact this
    refine ⟨e2,?_,by rw [show n+(d::ds).length=n+1+ds.length by simp;omega];exact h4⟩
    obtain ⟨e0,h5,h6⟩:=Option.bind_eq_some_iff.mp h1
    show (t d env).bind (fun e1=>(body e1).bind _)=_
    rw [h5]
    show (body e0).bind _=_
    rw [h6]
    exact h3
theorem atI_nat {α:Type} {xs:List α} {k:Nat} {x:α} (h:xs[k]?=some x):L2.atI xs (k:Int)=some x:=by
  have hk:=(List.getElem?_eq_some_iff.mp h).1
  unfold L2.atI L2.ixN
  rw [if_pos (by omega),if_pos (by omega)]
  simpa using h
theorem rng_get {n i:Nat} {d:D} (h:(rangeL 0 n)[i]?=some d):d=.int i∧i<n:=by
  unfold rangeL at h
  rw [List.getElem?_map] at h
  cases e:(List.range n)[i]? with
  | none=>rw [e] at h;cases h
  | some j=>
    rw [e] at h
    have hi:=(List.getElem?_eq_some_iff.mp e).1
    rw [List.length_range] at hi
    rw [List.getElem?_range hi] at e
    cases e
    cases h
    exact ⟨by simp,hi⟩
end Mi
namespace Mi
theorem getF_F (d:D) (env:En):getF (.F d::env) 0=some d:=rfl
theorem getF_S (s:Slot) (env:En) (i:Nat):getF (s::env) (i+1)=getF env i:=rfl
theorem app_v {env:En} {i:Nat} {f:Fe} {ds:List D} {d:D} (h:env[i]?=some (.O (.L ds))) (hf:f env=some d) (hl:ds.length<16000000):appF i f env=some (.nx (env.set i (.O (.L (ds++[d]))))):=by
  unfold appF;rw [h];show (f env).bind _=_;rw [hf];show (if ds.length<16000000 then _ else _)=_;rw [if_pos hl]
theorem seq_v {f g:Fs} {env e:En} (h:f env=some (.nx e)):seqF f g env=g e:=by unfold seqF;rw [h];rfl
theorem set_v {i:Nat} {f:Fe} {env:En} {d:D} (h:f env=some d):setF i f env=some (.nx (env.set i (.F d))):=by unfold setF;rw [h];rfl
theorem ret_v {f:Fe} {env:En} {d:D} (h:f env=some d):retF f env=some (.rt d):=by unfold retF;rw [h];rfl
theorem ifT_v {t:Fb} {f g:Fs} {env:En} (h:t env=some true):ifF t f g env=f env:=by unfold ifF;rw [h];rfl
theorem ifE_v {t:Fb} {f g:Fs} {env:En} (h:t env=some false):ifF t f g env=g env:=by unfold ifF;rw [h];rfl
theorem for_v {fi:Fi} {t:Ft} {b:Fs} {env:En} {ds:List D} (h:fi env=some ds):forF fi t b env=loopF t b ds env:=by unfold forF;rw [h];rfl
theorem fB_v {f:Fe} {env:En} {b:Bool} (h:f env=some (.bl b)):fB f env=some b:=by unfold fB;rw [h];rfl
theorem orT_v {f g:Fb} {env:En} (h:f env=some true):orB f g env=some true:=by unfold orB;rw [h];rfl
theorem orF_v {f g:Fb} {env:En} (h:f env=some false):orB f g env=g env:=by unfold orB;rw [h];rfl
theorem andF_v {f g:Fb} {env:En} (h:f env=some false):andB f g env=some false:=by unfold andB;rw [h];rfl
theorem not_v {f:Fb} {env:En} {b:Bool} (h:f env=some b):notB f env=some !b:=by unfold notB;rw [h];rfl
theorem call_v {fs:Fes} {m:List D→Option D} {env:En} {ds:List D} (h:fs env=some ds):(fs env).bind m=m ds:=by rw [h];rfl
theorem cons_v {f:Fe} {fs:Fes} {env:En} {d:D} {ds:List D} (h:f env=some d) (h2:fs env=some ds):fCons f fs env=some (d::ds):=by unfold fCons;rw [h,h2];rfl
theorem nil_v {env:En}:fNil env=some []:=rfl
theorem run_v {f:Fs} {n:Nat} {ds:List D} {d:D} (h:f (startE n ds)=some (.rt d)):runF f n ds=some d:=by unfold runF;rw [h];rfl
end Mi
namespace Mi
theorem itR1_v {f:Fe} {env:En} {n:Nat} (h:f env=some (.int (n:Int))) (h2:n≤1000000000):itR1 f env=some (rangeL 0 n):=by
  have hr:rngOk (n:Int)=true:=by
    simp only [rngOk,decide_eq_true_eq]
    omega
  unfold itR1
  rw [h,Option.bind_some]
  dsimp only
  rw [if_pos hr,Int.toNat_natCast]
theorem len_v {f:Fe} {env:En} {ds:List D} (h:f env=some (.lst ds)):un1 lenD f env=some (.int (ds.length:Int)):=by unfold un1;rw [h];rfl
theorem idx_v {f g:Fe} {env:En} {ds:List D} {i:Int} {d:D} (h:f env=some (.lst ds)) (h2:g env=some (.int i)) (h3:L2.atI ds i=some d):op2 idxD f g env=some d:=(op2_v h h2).trans h3
end Mi
namespace Mi
theorem unL_v {is:List Nat} {f:Fe} {env e:En} {ds:List D} (h:f env=some (.lst ds)) (h2:setAll is ds env=some e):unL is f env=some (.nx e):=by
  unfold unL;rw [h];show (setAll is ds env).bind _=_;rw [h2];rfl
theorem unF_v {is:List Nat} {f:Fe} {env e:En} {ds:List D} (h:f env=some (.tup ds)) (h2:setAll is ds env=some e):unF is f env=some (.nx e):=by
  unfold unF;rw [h];show (setAll is ds env).bind _=_;rw [h2];rfl
theorem itL_v {f:Fe} {env:En} {ds:List D} (h:f env=some (.lst ds)):itL f env=some ds:=by unfold itL;rw [h];rfl
theorem itT_v {f:Fe} {env:En} {ds:List D} (h:f env=some (.tup ds)):itT f env=some ds:=by unfold itT;rw [h];rfl
end Mi
namespace Mi
theorem seqR_v {f g:Fs} {env:En} {d:D} (h:f env=some (.rt d)):seqF f g env=some (.rt d):=by unfold seqF;rw [h];rfl
end Mi
namespace Mi
theorem cutD_head (ns:List D) (k:Nat):cutD ns none (some (k:Int))=ns.take k:=by
  unfold cutD
  rw [HT.sIx_none,HT.sIx_nat,List.drop_zero,Nat.sub_zero]
  by_cases h:ns.length≤k
  · rw [Nat.min_eq_right h,List.take_length,List.take_of_length_le h]
  · rw [Nat.min_eq_left (by omega)]
end Mi
namespace Mi
open PySem PySem.Spec PyProof.Rows L2
def unBl:List D→Option (List Bool)
  | []=>some []
  | .bl b::r=>(unBl r).bind fun bs=>some (b::bs)
  | _=>none
theorem unBl_eq:∀ {ds:List D} {bs:List Bool},unBl ds=some bs→ds=bs.map .bl
  | [],bs,h=>by cases h;rfl
  | d::r,bs,h=>by
    cases d<;>try cases h
    rename_i b
    obtain ⟨cs,h1,h2⟩:=Option.bind_eq_some_iff.mp h
    cases h2
    rw [unBl_eq h1];rfl
def allD:D→Option D
  | .lst ds=>(unBl ds).bind fun bs=>some (.bl (bs.all id))
  | _=>none
def anyD:D→Option D
  | .lst ds=>(unBl ds).bind fun bs=>some (.bl (bs.any id))
  | _=>none
theorem Reps.bls {K:Fg} {H:Hp}:∀ {bs:List Bool} {vs:List V},Reps K H (bs.map .bl) vs→vs=bs.map .bl
  | [],vs,h=>h
  | b::bs,vs,⟨v,r,e,h1,h2⟩=>by subst e;cases (show v=V.bl b from h1);rw [Reps.bls h2];rfl
theorem Vals.bls:∀ {bs:List Bool} {us:List Value},Vals (bs.map V.bl) us→us=bs.map .bool
  | [],us,h=>by cases h;rfl
  | b::bs,us,h=>by
    cases h with
    | cons p q=>cases (show _=Value.bool b from p);rw [Vals.bls q];rfl
theorem rng_all (bs:List Bool):(List.range bs.length).all (fun i=>bs.getD i false)=bs.all id:=by
  rw [Bool.eq_iff_iff]
  simp only [List.all_eq_true,List.mem_range,id_eq]
  constructor
  · intro h b hb
    obtain ⟨i,hi,rfl⟩:=List.getElem_of_mem hb
    simpa [List.getD,hi] using h i hi
  · intro h i hi
    simpa [List.getD,hi] using h _ (List.getElem_mem hi)
theorem rng_any (bs:List Bool):(List.range bs.length).any (fun i=>bs.getD i false)=bs.any id:=by
  rw [Bool.eq_iff_iff]
  simp only [List.any_eq_true,List.mem_range,id_eq]
  constructor
  · rintro ⟨i,hi,h⟩
    exact ⟨_,List.getElem_mem hi,by simpa [List.getD,hi] using h⟩
  · rintro ⟨b,hb,h⟩
    obtain ⟨i,hi,rfl⟩:=List.getElem_of_mem hb
    exact ⟨i,hi,by simpa [List.getD,hi] using h⟩
section
variable {X:Cx} {l r:Expr} {fa fb:Fe} {ga gb:Gr} {pos p p2 p3 p4:Pos}
theorem walk_bls {A:Around} {pins:List (Addr×Obj)} {σ:L2.St} {H:Hp} {s:Shared} {a:Addr} {bs:List Bool} {E:Value→Shared→Prop} {Q:Value→Shared→Prop} {g:List Bool→Bool} {r2:List Nat→(Nat→Bool)→Bool}
    (hh:A.handled=none) (I:Inv X pins σ H s) (hq:SqL X.K H a (bs.map V.bl)) (hg:∀ n,n=bs.length→r2 (List.range n) (fun i=>bs.getD i false)=g bs) (q:∀ s',Inv X pins σ H s'→Q (.bool (g bs)) s') :
    wpAny (model X.prog X.w) A.in1 (pyIter (.ref a)) (fun it s₂=>∃ I fp wr n P St tr,it=.ref I∧Walks X.prog X.w A.in1 I fp wr n P St∧St 0 s₂.heap∧TruthOf X.prog X.w A.in1 P tr∧
      ∀ h' tk,(∀ b o,b∉wr→s₂.heap.get? b=some o→h'.get? b=some o)→Q (.bool (r2 (List.range n) tr)) { s₂ with heap:=h',toks:=tk }) E s:=by
  obtain ⟨its,rv,pl,hz⟩:=I.list hq
  cases Vals.bls rv
  have hlt:a<s.heap.objs.size:=by obtain ⟨o,ho,_⟩:=pl.isList;exact Heap.lt_size ho
  refine wpAny_pyIter_list pl.isList ?_
  refine ⟨s.heap.objs.size,_,_,_,_,_,fun i=>bs.getD i false,rfl,Walks.list (A:=A.in1) (show A.in1.handled=none from hh) s.heap.objs.size a (Nat.ne_of_lt hlt) (bs.map Value.bool).toArray,⟨⟨_,Heap.get?_push_size _ rfl,rfl,rfl⟩,pl.isList.push _⟩,fun i v s1 Q1 E1 hv hQ=>?_,fun h' tk hk=>?_⟩
  · have hv':(bs.map Value.bool)[i]?=some v:=by simpa using hv
    rw [List.getElem?_map] at hv'
    cases e:bs[i]? with
    | none=>rw [e] at hv';cases hv'
    | some b=>
      rw [e] at hv'
      cases hv'
      have hb:bs.getD i false=b:=by simp [List.getD,e]
      have hQ:Q1 (bs.getD i false) s1:=hQ
      rw [hb] at hQ
      exact wpAny_truthy_bool hQ
  · rw [hg _ (by simp)]
    refine q _ (I.kept fun b o e=>hk b o (fun hb=>?_) (Heap.get?_push_of_some _ e))
    have:b=s.heap.objs.size:=by simpa using hb
    exact Nat.ne_of_lt (Heap.lt_size e) this
theorem call_allL (hc:X.calm=true):CallR X (.builtin "all") (fun xs H Q=>∃ (a:Addr) (bs:List Bool),xs=[.ref a]∧SqL X.K H a (bs.map V.bl)∧Q (.bl (bs.all id)) H):=by
  intro pins s σ H xs us Q I rs h
  obtain ⟨a,bs,rfl,hq,q⟩:=h
  obtain ⟨u,rfl,rx⟩:=vals1 rs
  cases rx
  exact call_all_walk (walk_bls (g:=fun bs=>bs.all id) (r2:=fun l f=>l.all f) (I.ok.hd hc) I hq (fun n e=>by subst e;exact rng_all bs) fun s' I'=>⟨.bl _,H,I',rfl,q⟩)
theorem call_anyL (hc:X.calm=true):CallR X (.builtin "any") (fun xs H Q=>∃ (a:Addr) (bs:List Bool),xs=[.ref a]∧SqL X.K H a (bs.map V.bl)∧Q (.bl (bs.any id)) H):=by
  intro pins s σ H xs us Q I rs h
  obtain ⟨a,bs,rfl,hq,q⟩:=h
  obtain ⟨u,rfl,rx⟩:=vals1 rs
  cases rx
  exact call_any_walk (walk_bls (g:=fun bs=>bs.any id) (r2:=fun l f=>l.any f) (I.ok.hd hc) I hq (fun n e=>by subst e;exact rng_any bs) fun s' I'=>⟨.bl _,H,I',rfl,q⟩)
theorem d_all {K:Fg}:Does1 K .cl allD (fun xs H Q=>∃ (a:Addr) (bs:List Bool),xs=[.ref a]∧SqL K H a (bs.map V.bl)∧Q (.bl (bs.all id)) H):=fun {Z H x dx d Q} s h e k=>by
  cases dx<;>try cases e
  obtain ⟨bs,h1,h2⟩:=Option.bind_eq_some_iff.mp e
  cases h2
  cases unBl_eq h1
  obtain ⟨a,vs,rfl,q,rr⟩:=h.lst s
  cases Reps.bls rr
  exact ⟨a,bs,rfl,q,k _ Z H (Ex.refl s) rfl⟩
theorem d_any {K:Fg}:Does1 K .cl anyD (fun xs H Q=>∃ (a:Addr) (bs:List Bool),xs=[.ref a]∧SqL K H a (bs.map V.bl)∧Q (.bl (bs.any id)) H):=fun {Z H x dx d Q} s h e k=>by
  cases dx<;>try cases e
  obtain ⟨bs,h1,h2⟩:=Option.bind_eq_some_iff.mp e
  cases h2
  cases unBl_eq h1
  obtain ⟨a,vs,rfl,q,rr⟩:=h.lst s
  cases Reps.bls rr
  exact ⟨a,bs,rfl,q,k _ Z H (Ex.refl s) rfl⟩
theorem boot_all':bootBuiltins "all"=some (.builtin "all"):=by decide +kernel
theorem boot_any':bootBuiltins "any"=some (.builtin "any"):=by decide +kernel
theorem m_all (hm:X.mg "all"=none) (hcalm:X.calm=true) (ha:PD X ga l fa) (hg:Gl X "all":=by rfl) (he:starEach [l] X.env=[(false,eval l X.env)]:=by rfl):PD X .cl (.Call (.Name "all" p) [l] [] pos) (un1 allD fa):=
  m_bi1 (call_allL hcalm) d_all boot_all' hm ha (by decide) (by decide) hg he
theorem m_any (hm:X.mg "any"=none) (hcalm:X.calm=true) (ha:PD X ga l fa) (hg:Gl X "any":=by rfl) (he:starEach [l] X.env=[(false,eval l X.env)]:=by rfl):PD X .cl (.Call (.Name "any" p) [l] [] pos) (un1 anyD fa):=
  m_bi1 (call_anyL hcalm) d_any boot_any' hm ha (by decide) (by decide) hg he
end
end Mi
namespace Mi
open PySem PySem.Spec PyProof.Rows L2
section
variable {prog:Program} {w:World} {A:Around} {E:Value→Shared→Prop} {s:Shared}
theorem collectS {a:Addr} {o:Obj} {n:Nat} {vs:List Value} {Q:List Value→Shared→Prop} (ho:s.heap.get? a=some o) (hc:o.cls=.type "list"∨o.cls=.type "tuple") (hd:o.data=.seq vs.toArray n)
    (q:Q vs { s with heap:=(s.heap.push (seqObj "list" #[] 0)).update s.heap.objs.size (Obj.mapSeq (·++vs.toArray)) }) (hz:vs.length≤sizeLine):wpAny (model prog w) A (collect (.ref a)) Q E s:=by
  unfold collect
  refine wpAny_bind (wpAny_runValue (codeAny_builtin PyProof.Rows.entry_proto_collect' (show wpAny _ _ (newList [] >>= fun z=>again (.builtin "list.__iadd__" ⟨[z,.ref a],[]⟩)) _ _ s from
    wpAny_bind (wpAny_newList (wpAny_pure ⟨Code.quiet_builtin _ (by decide +kernel),codeAny_builtin PyProof.Rows.entry_list_iadd' ?_⟩)))))
  have e1:(s.heap.push (seqObj "list" #[] 0)).get? a=some o:=Heap.get?_push_of_some _ ho
  have e2:(s.heap.push (seqObj "list" #[] 0)).get? s.heap.objs.size=some (seqObj "list" #[] 0):=Heap.get?_push_size _ rfl
  obtain ⟨T,hT,ht⟩:∃ T:String,o.cls=.type T∧(Value.type T==Value.type "list"||Value.type T==Value.type "tuple")=true:=by
    rcases hc with h | h
    · exact ⟨"list",h,rfl⟩
    · exact ⟨"tuple",h,rfl⟩
  show wpAny _ _ (Builtin.List.listExtendWith (.ref s.heap.objs.size) (.ref a) (.ref s.heap.objs.size)) _ _ { s with heap:=s.heap.push (seqObj "list" #[] 0) }
  unfold Builtin.List.listExtendWith
  refine wpAny_bind (wpAny_typeOf (T:=T) ⟨o,e1,hT⟩ ?_)
  rw [if_pos (by rw [Bool.or_assoc,ht,Bool.or_true])]
  refine wpAny_bind (listItems_at e1 hd (wpAny_bind (listItems_at (xs:=#[]) (n:=0) e2 rfl ?_)))
  rw [if_neg (by simp)]
  refine wpAny_bind (listUpdate_at (xs:=#[]) (n:=0) e2 rfl (wpAny_pure ?_) (Nat.zero_le _) (by simp only [Array.size_append,List.size_toArray,List.length_nil];omega))
  show wpAny (model prog w) A (load s.heap.objs.size >>= fun o=>match o.data with | .seq xs _=>pure xs.toList | _=>unsupported "internal:collect") Q E { s with heap:=(s.heap.push (seqObj "list" #[] 0)).update s.heap.objs.size (Obj.mapSeq (·++vs.toArray)) }
  refine wpAny_bind (wpAny_load (get?_update_seq e2 _) ?_)
  show wpAny _ _ (pure ((#[]:Array Value)++vs.toArray).toList) Q E _
  rw [show ((#[]:Array Value)++vs.toArray).toList=vs by simp]
  exact wpAny_pure q
end
theorem Reps.intsV {K:Fg} {H:Hp}:∀ {bs:List Int} {vs:List V},Reps K H (bs.map .int) vs→vs=bs.map .int
  | [],vs,h=>h
  | b::bs,vs,⟨v,r,e,h1,h2⟩=>by subst e;cases (show v=V.int b from h1);rw [Reps.intsV h2];rfl
section
variable {X:Cx} {l r:Expr} {fa fb:Fe} {ga gb:Gr} {pos p:Pos}
end
end Mi
namespace Mi
open PySem PySem.Spec PyProof.Rows L2
structure Src (prog:Program) (w:World) (i l:Addr) (it:Nat→Heap→Prop) (at_:List Value→Heap→Prop):Prop where
  nxt:∀ {A:Around} {E:Value→Shared→Prop} {s:Shared} {k:Nat} {xs:List Value} {x:Value} {Q:Value→Shared→Prop},it k s.heap→at_ xs s.heap→xs[k]?=some x→(∀ h',it (k+1) h'→Heap.SameBut i s.heap h'→Q x { s with heap:=h' })→
    wpAny (model prog w) A (Builtin.SmallTypes.nextOf (.ref i)) Q E s
  fin:∀ {A:Around} {E:Value→Shared→Prop} {s:Shared} {k:Nat} {xs:List Value} {Q:Value→Shared→Prop},A.handled=none→it k s.heap→at_ xs s.heap→xs[k]?=none→
    (∀ h' e,Heap.ExtBut i s.heap h'→(∃ o,h'.get? e=some o∧o.cls=.type "StopIteration")→E (.ref e) { s with heap:=h' })→wpAny (model prog w) A (Builtin.SmallTypes.nextOf (.ref i)) Q E s
  itx:∀ {k:Nat} {h h':Heap},it k h→(∀ o,h.get? i=some o→h'.get? i=some o)→it k h'
  atx:∀ {xs:List Value} {h h':Heap},at_ xs h→(∀ o,h.get? l=some o→h'.get? l=some o)→at_ xs h'
  obj:∀ {k:Nat} {h:Heap},it k h→∃ o,h.get? i=some o∧∀ v,o.data≠.cell v
  lt:∀ {xs:List Value} {h:Heap},at_ xs h→∃ o,h.get? l=some o
section
variable {prog:Program} {w:World}
variable {A:Around} {E:Value→Shared→Prop} {s:Shared} {z TI TO i1 i2 l1 l2:Addr} {k1 k2:Nat} {xs ys:List Value} {x y a b:Value} {it1 it2:Nat→Heap→Prop} {at1 at2:List Value→Heap→Prop}
end
section
variable {X:Cx} {pins:List (Addr×Obj)} {σ:L2.St} {H:Hp} {s:Shared} {h':Heap}
end
structure Kin (K:Fg) (l:Addr) (S:Hp→List V→Prop) (at_:List Value→Heap→Prop):Prop where
  get:∀ {X:Cx} {pins:List (Addr×Obj)} {σ:L2.St} {H:Hp} {s:Shared} {xs:List V},X.K=K→L2.Inv X pins σ H s→S H xs→∃ its,Vals xs its∧at_ its s.heap
  inj:∀ {X:Cx} {pins:List (Addr×Obj)} {σ:L2.St} {H:Hp} {s:Shared} {xs ys:List V},X.K=K→L2.Inv X pins σ H s→S H xs→S H ys→xs=ys
end Mi
namespace Mi
open PySem PySem.Spec PyProof.Rows L2
section
variable {X:Cx} {es:List Expr} {kk:Nat} {tp:Pos}
end
end Mi
namespace Mi
open PySem L2
theorem and_v {f g:Fe} {env:En} {p q:Bool} (h1:f env=some (.bl p)) (h2:p=true→g env=some (.bl q)):andF f g env=some (.bl (p&&q)):=by
  unfold andF;rw [h1]
  cases p with
  | true=>exact h2 rfl
  | false=>rfl
theorem andB_v {f g:Fb} {env:En} {p q:Bool} (h1:f env=some p) (h2:p=true→g env=some q):andB f g env=some (p&&q):=by
  unfold andB;rw [h1]
  cases p with
  | true=>exact h2 rfl
  | false=>rfl
theorem ch_v {b b':D→D→Option D} {fa fb fc:Fe} {env:En} {x y w:D} {p q:Bool} (hx:fa env=some x) (hy:fb env=some y) (hw:fc env=some w) (h1:b x y=some (.bl p)) (h2:b' y w=some (.bl q)):chF b b' fa fb fc env=some (.bl (p&&q)):=by
  unfold chF;rw [hx];show (fb env).bind _=_;rw [hy];show (b x y).bind _=_;rw [h1]
  cases p with
  | true=>show (fc env).bind _=_;rw [hw];exact h2
  | false=>rfl
theorem comp_v {fi:Fi} {is:List Nat} {t:Ft} {c:Fb} {k:En→Option (List D)} {n:Nat} {caps:List Nat} {env:En} {ds xs:List D} (h1:fi env=some ds) (h2:unAll is (capE n caps env)=true) (h3:goF t c k (capE n caps env) ds=some xs) (hl:xs.length≤16000000):compF fi is t c k n caps env=some (.lst xs):=by
  unfold compF;rw [h1];show (if unAll is (capE n caps env)=true then _ else _)=_;rw [if_pos h2,h3];show (if xs.length≤16000000 then _ else _)=_;rw [if_pos hl]
theorem go_map {t:Ft} {c:Fb} {k:En→Option (List D)} {env:En} (p:D→Bool) (g:D→D):∀ (ds:List D),(∀ d∈ds,∃ e1,t d env=some e1∧c e1=some (p d)∧(p d=true→k e1=some [g d]))→goF t c k env ds=some ((ds.filter p).map g)
  | [],_=>rfl
  | d::ds,h=>by
    obtain ⟨e1,h1,h2,h3⟩:=h d List.mem_cons_self
    have ih:=go_map p g ds fun x hx=>h x (List.mem_cons_of_mem _ hx)
    unfold goF
    rw [h1];show (c e1).bind _=_;rw [h2]
    cases hp:p d with
    | true=>
      show (if true=true then k e1 else some []).bind _=_
      rw [if_pos rfl,h3 hp];show (goF t c k env ds).bind _=_;rw [ih,List.filter_cons,if_pos hp];rfl
    | false=>
      simp only [Option.bind_some,Bool.false_eq_true,if_false,ih,List.nil_append,List.filter_cons,hp]
theorem emit_v {f:Fe} {env:En} {d:D} (h:f env=some d):emitF f env=some [d]:=by unfold emitF;rw [h];rfl
theorem loop_acc {t:Ft} {body:Fs} (I:List D→En→Prop) (g:D→List D) (B M:Nat):∀ (ds:List D) (acc:List D) (env:En),I acc env→acc.length+B*ds.length≤M→(∀ d∈ds,(g d).length≤B∧∀ acc e,I acc e→acc.length+B≤M→∃ e1,(t d e).bind body=some (.nx e1)∧I (acc++g d) e1)→
    ∃ e2,loopF t body ds env=some (.nx e2)∧I (acc++ds.flatMap g) e2
  | [],acc,env,h,_,_=>⟨env,rfl,by simpa using h⟩
  | d::ds,acc,env,h,hl,hb=>by
    obtain ⟨b1,b2⟩:=hb d List.mem_cons_self
    rw [List.length_cons,Nat.mul_succ] at hl
    obtain ⟨e1,h1,h2⟩:=b2 acc env h (by omega)
    obtain ⟨e2,h3,h4⟩:=loop_acc I g B M ds (acc++g d) e1 h2 (by rw [List.length_append];omega) fun d' hd=>hb d' (List.mem_cons_of_mem _ hd)
    refine ⟨e2,?_,by rw [List.flatMap_cons,← List.append_assoc];exact h4⟩
    obtain ⟨e0,h5,h6⟩:=Option.bind_eq_some_iff.mp h1
    show (t d env).bind (fun e1=>(body e1).bind _)=_
    rw [h5]
    show (body e0).bind _=_
    rw [h6]
    exact h3
theorem len_flat {g:D→List D} {B:Nat}:∀ (ds:List D),(∀ d∈ds,(g d).length≤B)→(ds.flatMap g).length≤B*ds.length
  | [],_=>by simp
  | d::ds,h=>by
    rw [List.flatMap_cons,List.length_append,List.length_cons,Nat.mul_succ]
    have:=h d List.mem_cons_self
    have:=len_flat ds fun x hx=>h x (List.mem_cons_of_mem _ hx)
    omega
theorem mem_rng {n:Nat} {d:D}:d∈rangeL 0 n↔∃ i:Nat,i<n∧d=.int i:=by
  unfold rangeL
  simp only [List.mem_map,List.mem_range]
  constructor
  · rintro ⟨i,h,rfl⟩;exact ⟨i,h,by simp⟩
  · rintro ⟨i,h,rfl⟩;exact ⟨i,h,by simp⟩
theorem rng_len (n:Nat):(rangeL 0 n).length=n:=by simp [rangeL]
theorem deps_le {n:Nat}:∀ {ds:List D},(∀ d∈ds,dep d≤n)→deps ds≤n
  | [],_=>by unfold deps;omega
  | d::ds,h=>by
    unfold deps
    have:=h d List.mem_cons_self
    have:=deps_le fun x hx=>h x (List.mem_cons_of_mem _ hx)
    omega
theorem dep_tup {n:Nat} {ds:List D} (h:∀ d∈ds,dep d≤n):dep (.tup ds)≤n+1:=by unfold dep;have:=deps_le h;omega
theorem dep_lst {n:Nat} {ds:List D} (h:∀ d∈ds,dep d≤n):dep (.lst ds)≤n+1:=by unfold dep;have:=deps_le h;omega
theorem dep_int (i:Int):dep (.int i)=0:=by unfold dep;rfl
theorem ninT_v {f g:Fe} {env:En} {d:D} {es:List D} {b:Bool} (h1:f env=some d) (h2:g env=some (.tup es)) (h3:dep d≤60) (hb:inD d es=b) (h4:(pl d&&pls es)=true:=by rfl):op2 (inF true) f g env=some (.bl !b):=by
  rw [op2_v h1 h2];show (if dep d≤60∧(pl d&&pls es)=true then _ else _)=_;rw [if_pos ⟨h3,h4⟩,← hb];rfl
theorem eq_d {f g:Fe} {env:En} {d e:D} {b:Bool} (h1:f env=some d) (h2:g env=some e) (h3:depOk d e=true) (hb:eqD d e=b):op2 eqF f g env=some (.bl b):=by
  rw [op2_v h1 h2];unfold eqF;rw [if_pos h3,hb]
theorem ne_d {f g:Fe} {env:En} {d e:D} {b:Bool} (h1:f env=some d) (h2:g env=some e) (h3:depOk d e=true) (hb:eqD d e=b):op2 neF f g env=some (.bl !b):=by
  rw [op2_v h1 h2];unfold neF;rw [if_pos h3,hb]
theorem ok_l {d e:D} (h:dep d≤60) (h2:(pl d&&pl e)=true):depOk d e=true:=by unfold depOk;rw [h2,decide_eq_true h];rfl
theorem ok_r {d e:D} (h:dep e≤60) (h2:(pl d&&pl e)=true):depOk d e=true:=by unfold depOk;rw [h2,decide_eq_true h,Bool.or_true];rfl
theorem eqD_nil (xs:List D):eqD (.lst xs) (.lst [])=xs.isEmpty:=by
  cases xs<;>(unfold eqD;rfl)
theorem tup_v {fs:Fes} {env:En} {ds:List D} (h:fs env=some ds):fTup fs env=some (.tup ds):=by unfold fTup;rw [h];rfl
theorem ite_v {t:Fb} {f g:Fe} {env:En} {b:Bool} {d:D} (h:t env=some b) (h1:b=true→f env=some d) (h2:b=false→g env=some d):iteFn t f g env=some d:=by
  unfold iteFn;rw [h]
  cases b with
  | true=>exact h1 rfl
  | false=>exact h2 rfl
theorem addL_v {f g:Fe} {env:En} {xs ys:List D} (h:f env=some (.lst xs)) (h2:g env=some (.lst ys)) (hl:xs.length+ys.length≤16000000):op2 addL f g env=some (.lst (xs++ys)):=by
  rw [op2_v h h2];show (if xs.length+ys.length≤16000000 then _ else _)=_;rw [if_pos hl]
theorem unBl_map:∀ (bs:List Bool),unBl (bs.map .bl)=some bs
  | []=>rfl
  | b::bs=>by show (unBl (bs.map .bl)).bind _=_;rw [unBl_map bs];rfl
theorem all_v {f:Fe} {env:En} {bs:List Bool} (h:f env=some (.lst (bs.map .bl))):un1 allD f env=some (.bl (bs.all id)):=by
  rw [un1_v h];show (unBl (bs.map .bl)).bind _=_;rw [unBl_map];rfl
theorem any_v {f:Fe} {env:En} {bs:List Bool} (h:f env=some (.lst (bs.map .bl))):un1 anyD f env=some (.bl (bs.any id)):=by
  rw [un1_v h];show (unBl (bs.map .bl)).bind _=_;rw [unBl_map];rfl
theorem setO_v {i:Nat} {f:Fe} {env:En} {ds:List D} (h:f env=some (.lst ds)):setO i f env=some (.nx (env.set i (.O (.L ds)))):=by unfold setO;rw [h];rfl
end Mi
namespace Mi
theorem and_f {f g:Fe} {env:En} (h1:f env=some (.bl false)):andF f g env=some (.bl false):=by unfold andF;rw [h1];rfl
theorem and_t {f g:Fe} {env:En} (h1:f env=some (.bl true)):andF f g env=g env:=by unfold andF;rw [h1];rfl
end Mi
namespace Mi
theorem tg_v {t:Ft} {d:D} {e e0:En} {b:Fs} {o:Out} (h:t d e=some e0) (h2:b e0=some o):(t d e).bind b=some o:=by rw [h];exact h2
end Mi
namespace Mi
theorem go_map1 {t:Ft} {k:En→Option (List D)} {env:En} (g:D→D) (ds:List D) (h:∀ d∈ds,∃ e1,t d env=some e1∧k e1=some [g d]):goF t (fun _=>some true) k env ds=some (ds.map g):=by
  have:=go_map (t:=t) (c:=fun _=>some true) (k:=k) (env:=env) (fun _=>true) g ds fun d hd=>by
    obtain ⟨e1,h1,h2⟩:=h d hd
    exact ⟨e1,h1,rfl,fun _=>h2⟩
  rwa [List.filter_eq_self.mpr (fun _ _=>rfl)] at this
end Mi
namespace Mi
end Mi
namespace Mi
open PySem PySem.Spec PyProof.Rows L2
def putP (ks:List (Int×Int)) (p:Int×Int):List (Int×Int):=if p∈ks then ks else ks++[p]
theorem kk_inj {p q:Int×Int} (h:kk p=kk q):p=q:=by
  obtain ⟨a,b⟩:=p
  obtain ⟨c,d⟩:=q
  unfold kk at h
  simp at h
  exact Prod.ext h.1 h.2
theorem putP_len (ks:List (Int×Int)) (p:Int×Int):(putP ks p).length≤ks.length+1:=by
  unfold putP;split<;>simp
theorem zip_fst {α β:Type}:∀ {xs:List α} {ys:List β},xs.length=ys.length→(xs.zip ys).map (·.1)=xs
  | [],[],_=>rfl
  | [],_::_,h=>by simp at h
  | _::_,[],h=>by simp at h
  | x::xs,y::ys,h=>by rw [List.zip_cons_cons,List.map_cons,zip_fst (by simpa using h)]
theorem nodup_map {α β:Type} {f:α→β} (hf:∀ x y,f x=f y→x=y) {l:List α}:(l.map f).Nodup↔l.Nodup:=by
  unfold List.Nodup
  rw [List.pairwise_map]
  exact ⟨fun h=>h.imp fun hne e=>hne (by rw [e]),fun h=>h.imp fun hne e=>hne (hf _ _ e)⟩
def kd (x:(Int×Int)×Addr):List Key×Addr×Value:=(kk x.1,x.2,.bool true)
theorem kd_fst {ps:List (Int×Int)} {bs:List Addr} (hl:bs.length=ps.length):((ps.zip bs).map kd).map (·.1)=ps.map kk:=by
  rw [List.map_map,show ((fun x:List Key×Addr×Value=>x.1) ∘ kd)=kk ∘ (fun x:(Int×Int)×Addr=>x.1) from rfl,← List.map_map,zip_fst hl.symm]
theorem PrAt.zip {K:Fg} {H:Hp} {ps:List (Int×Int)} {bs:List Addr} (h:PrAt K H ps bs):∀ x∈ps.zip bs,SqT K H x.2 [.int x.1.1,.int x.1.2]:=fun x hx=>by
  obtain ⟨i,hi⟩:=List.mem_iff_getElem?.mp hx
  obtain ⟨h1,h2⟩:=List.getElem?_zip_eq_some.mp hi
  exact h.2 i _ _ h1 h2
section
variable {P:Program} {w:World} {a:Addr} {ps:List (Int×Int)} {bs:List Addr} {h:Heap}
theorem dicP_to (hl:bs.length=ps.length) (d:DicP a ps bs h) (his:∀ x∈ps.zip bs,(tupleKind (mixKind P w)).is h (kk x.1) x.2):h.DictOfH (tupleKind (mixKind P w)) a ((ps.zip bs).map kd):=by
  obtain ⟨o,es,ep,h1,h2,h3,h4,h5,h6,h7⟩:=d
  refine ⟨o,es,ep,h1,h2,h3,by rw [h4,List.map_map];rfl,fun x hx=>?_,?_⟩
  · obtain ⟨y,hy,rfl⟩:=List.mem_map.mp hx
    exact his y hy
  · rw [kd_fst hl];exact (nodup_map fun x y=>kk_inj).mpr h5
theorem dicP_of (hl:bs.length=ps.length) (d:h.DictOfH (tupleKind (mixKind P w)) a ((ps.zip bs).map kd)) (hs:(a==sysModules)=false) (hz:ps.length≤16000000):DicP a ps bs h:=by
  obtain ⟨o,es,ep,h1,h2,h3,h4,h5,h6⟩:=d
  refine ⟨o,es,ep,h1,h2,h3,by rw [h4,List.map_map];rfl,?_,hs,hz⟩
  rw [kd_fst hl] at h6
  exact (nodup_map fun x y=>kk_inj).mp h6
theorem dicP_stays (a:Addr) (ps:List (Int×Int)) (bs:List Addr):∀ h1 h2:Heap,DicP a ps bs h1→(∀ o,h1.get? a=some o→h2.get? a=some o)→DicP a ps bs h2:=fun h1 h2 ⟨o,es,ep,e,r⟩ k=>⟨o,es,ep,k o e,r⟩
theorem at_kd (p:Int×Int):∀ {l:List ((Int×Int)×Addr)},(atKey (l.map kd) (kk p)).isSome=decide (p∈l.map (·.1))
  | []=>by simp [atKey]
  | x::l=>by
    have ih:=at_kd p (l:=l)
    unfold atKey at ih ⊢
    rw [List.map_cons,List.find?_cons]
    by_cases e:x.1=p
    · subst e
      rw [show decide ((kd x).1=kk x.1)=true by simp [kd]]
      simp
    · rw [show decide ((kd x).1=kk p)=false from decide_eq_false fun z=>e (kk_inj z)]
      rw [Option.isSome_map] at ih ⊢
      simp only
      rw [ih]
      have:¬ p=x.1:=fun z=>e z.symm
      simp [this]
def putB (ps:List (Int×Int)) (bs:List Addr) (p:Int×Int) (b:Addr):List Addr:=if p∈ps then bs else bs++[b]
theorem stored_kd (hl:bs.length=ps.length) (p:Int×Int) (b:Addr):storedH ((ps.zip bs).map kd) (kk p) b (.bool true)=((putP ps p).zip (putB ps bs p b)).map kd:=by
  unfold storedH putP putB
  rw [at_kd,zip_fst hl.symm]
  by_cases h:p∈ps
  · rw [if_pos h,if_pos h,decide_eq_true h,if_pos rfl]
    rw [List.map_map]
    refine List.map_congr_left fun x _=>?_
    simp only [Function.comp,putAt]
    split<;>rfl
  · rw [if_neg h,if_neg h,decide_eq_false h,if_neg (by simp)]
    rw [List.zip_append hl.symm,List.map_append];rfl
theorem putB_len (hl:bs.length=ps.length) (p:Int×Int) (b:Addr):(putB ps bs p b).length=(putP ps p).length:=by
  unfold putB putP;split<;>simp [hl]
theorem PrAt.put {K:Fg} {H:Hp} (r:PrAt K H ps bs) {p:Int×Int} {b:Addr} (q:SqT K H b [.int p.1,.int p.2]):PrAt K H (putP ps p) (putB ps bs p b):=by
  refine ⟨putB_len r.1 p b,fun i p' b' h1 h2=>?_⟩
  unfold putP at h1
  unfold putB at h2
  split at h1
  · rw [if_pos ‹_›] at h2;exact r.2 i p' b' h1 h2
  · rw [if_neg ‹_›] at h2
    by_cases hi:i<ps.length
    · rw [List.getElem?_append_left hi] at h1
      rw [List.getElem?_append_left (by rw [r.1];exact hi)] at h2
      exact r.2 i p' b' h1 h2
    · rw [List.getElem?_append_right (by omega)] at h1
      rw [List.getElem?_append_right (by rw [r.1];omega)] at h2
      have hz:i-ps.length=0:=by
        have:=(List.getElem?_eq_some_iff.mp h1).1
        simp at this;omega
      rw [hz] at h1
      rw [r.1,hz] at h2
      cases h1;cases h2
      exact q
end
section
variable {X:Cx} {rg:Gr} {l r:Expr} {fa fb:Fe} {ga gb:Gr} {pos p:Pos} {k:Nat}
theorem key_sq {pins σ H s} (I:Inv X pins σ H s) {b:Addr} {m n:Int} (hq:SqT X.K H b [.int m,.int n]):(tupleKind (mixKind X.prog X.w)).is s.heap (kk (m,n)) b:=by
  obtain ⟨its,rv,⟨o,h1,h2,n',h3⟩,_⟩:=I.tuple hq
  exact ⟨o,its.toArray,n',h1,h2,h3,by simpa using items_are (ks:=kk (m,n)) rv⟩
theorem dic_in {pins σ H s} (I:Inv X pins σ H s) {c:Addr} {ks:List (Int×Int)} {bs:List Addr} (hc:H c=some (.ext (DicP c ks bs))) (hp:PrAt X.K H ks bs):s.heap.DictOfH (tupleKind (mixKind X.prog X.w)) c ((ks.zip bs).map kd)∧(c==sysModules)=false∧ks.length≤16000000:=by
  have hS:DicP c ks bs s.heap:=(show ObjOk X.prog X.w H s.heap c (.ext (DicP c ks bs)) from I.hok c _ hc).1
  refine ⟨dicP_to hp.1 hS fun x hx=>key_sq I (hp.zip x hx),?_⟩
  obtain ⟨_,_,_,_,_,_,_,_,h6,h7⟩:=hS
  exact ⟨h6,h7⟩
theorem m_dnew:PD X .nd (.Dict [] [] pos) (fC (.dct [])):=fun pins s σ H Q I hT=>by
  obtain ⟨env,B,Z,d,R,e,k⟩:=hT
  cases e
  have hf:=I.hok.fresh (Nat.le_refl s.heap.objs.size)
  have hd:DicP s.heap.objs.size [] [] (s.heap.push { cls:=.type "dict",data:=.dict #[] }):=⟨_,#[],0,Heap.get?_push_size _ rfl,⟨rfl,rfl,rfl⟩,rfl,rfl,List.nodup_nil,by have:=I.big;simpa using (Nat.ne_of_gt this),by simp⟩
  exact wpAny_Dict_empty ⟨.ref s.heap.objs.size,_,I.laid (a:=s.heap.objs.size) (o:=.ext (DicP s.heap.objs.size [] [])) (t':=s.toks) (fun _ _ q=>Heap.get?_push_of_some _ q) (Nat.le_refl _) ⟨hd,⟨_,Heap.get?_push_size _ rfl⟩,dicP_stays _ _ _⟩,rfl,
    k _ Z _ (Ex.newL R.zh hf) ⟨s.heap.objs.size,[],rfl,rfl,hf,⟨[],upd_same,rfl,fun i p b h=>by simp at h⟩,R.zh.free hf⟩⟩
def setQ (i:Nat) (f:Fe):Fs:=fun env=>(f env).bind fun d=>match d with | .dct ks=>some (.nx (env.set i (.O (.T ks)))) | _=>none
theorem setQ_pass {f:Fe} {i:Nat} {E:Ends} {σ:L2.St} {H:Hp} (h:TSt X.K rg (setQ i f) E σ H):tAsg (T X.K .nd f) (gName i) E σ H:=by
  obtain ⟨env,B,Z,o,R,e,k⟩:=h
  obtain ⟨d,e1,e2⟩:=Option.bind_eq_some_iff.mp e
  cases d<;>cases e2
  rename_i ks
  refine ⟨env,B,Z,_,R,e1,fun v Z' H' x g=>?_⟩
  obtain ⟨a,ks',rfl,e3,h1,⟨bs,h2,hp⟩,h3⟩:=g
  cases e3
  refine k _ Z' H' (x.part R.bh) ((R.ext x).setO i (R.bh.free h1) h3 h2 (show OwnOk X.K Z' a (.T ks) _ from ⟨bs,rfl,hp⟩) fun j es hj hje hja=>?_)
  obtain ⟨y,e4,b,us,e5,e6,_⟩:=R.sl j _ hje
  rw [hja] at e4;cases e4;cases e5
  rw [h1] at e6;cases e6
theorem s_setQ (i:Nat) {x:Str} {e:Expr} {fe:Fe} {pos':Pos} (he:PD X .nd e fe) (hN:X.N.Nodup) (hi:X.N[i]?=some x:=by rfl) (hx:Loc X.env.scope x:=by first | exact Or.inl rfl | exact Or.inr rfl) (hs:swapsWith e (some (.Name x pos')) pos.line X.env=pure false:=by rfl)
    (hf:X.fn x=true∨X.env.scope.names.lookup x=some .local:=by first | exact .inl rfl | exact .inr rfl | assumption):SD X rg (.Assign [.Name x pos'] e pos) (setQ i fe):=PS.imp (ps_set hN hi hx he hs hf) fun E σ H h=>setQ_pass h
def sPutE (K:Fg) (td ty tv:TE):TS:=fun D σ H=>tv σ H fun v H1=>td σ H1 fun x H2=>ty σ H2 fun y H3=>∃ (a b:Addr) (ks:List (Int×Int)) (bs:List Addr) (m n:Int),v=.bl true∧x=.ref a∧y=.ref b∧H3 a=some (.ext (DicP a ks bs))∧PrAt K H3 ks bs∧SqT K H3 b [.int m,.int n]∧ks.length<16000000∧
  D.nx σ (upd H3 a (.ext (DicP a (putP ks (m,n)) (putB ks bs (m,n) b))))
theorem ps_putE {o i value:Expr} {td ty tv:TE} {pos':Pos} (hu:X.A.units+1<cLine) (ho:PE X o td) (hi:PE X i ty) (hv:PE X value tv) (hs:swapsWith value (some (.Subscript o i pos')) pos.line X.env=pure false) :
    PS X (.Assign [.Subscript o i pos'] value pos) (sPutE X.K td ty tv):=by
  intro pins s σ H D I h
  refine wpAny_Assign_Subscript (thn (hv pins s σ H _ I h) fun r s1 ⟨v,H1,I1,rv,q1⟩=>thn (ho pins s1 σ H1 _ I1 q1) fun u s2 ⟨x,H2,I2,rx,q2⟩=>thn (hi pins s2 σ H2 _ I2 q2) fun iv s3 hq_=>?_) hs
  obtain ⟨y,H3,I3,ry,a,b,ks,bs,m,n,ev,ex,ey,hc,hp,hq,hl,q3⟩:=hq_
  subst ev ex ey
  cases (show u=Value.ref a from rx)
  cases (show iv=Value.ref b from ry)
  cases (show r=Value.bool true from rv)
  obtain ⟨dd,hsm,hz⟩:=dic_in I3 hc hp
  refine wpAny_setItem_heap (hsz:=by rw [List.length_map,List.length_zip,hp.1,Nat.min_self,sizeLine_eq];omega) (tupleKind_room_in1 hu) (key_sq I3 hq) dd fun h' dd' hs'=>?_
  rw [stored_kd hp.1] at dd'
  have hnew:=dicP_of (putB_len hp.1 (m,n) b) dd' hsm (by have:=putP_len ks (m,n);omega)
  have he:∃ u,h'.get? a=some u:=by obtain ⟨o,_,_,e,_⟩:=hnew;exact ⟨o,e⟩
  exact ⟨σ,_,I3.write (x:=a) (e:=a) (o:=.ext (DicP a (putP ks (m,n)) (putB ks bs (m,n) b))) (by rw [hc];exact True.intro) (.inl rfl) (fun b u hb z=>(hs'.2 b hb).trans z) he ⟨hnew,he,dicP_stays _ _ _⟩,q3⟩
def putV (i:Nat) (fk:Fe):Fs:=fun env=>(fk env).bind fun d=>match env[i]?,d with
  | some (.O (.T ks)),.tup [.int a,.int b]=>if ks.length<16000000 then some (.nx (env.set i (.O (.T (putP ks (a,b)))))) else none
  | _,_=>none
theorem s_putV (i:Nat) {x:Str} {key:Expr} {fk:Fe} {px p2 p3:Pos} {k2:Nat} (hr:Room k X.A) (hk:PD X .cl key fk) (hN:X.N[i]?=some x:=by rfl) (hv:Vis X.env.scope x:=by first | exact Or.inl rfl | exact Or.inr (Or.inl rfl) | exact Or.inr (Or.inr rfl))
    (hd:(x==("__debug__":Str))=false:=by decide) (hcd:(x==("__classdict__":Str))=false:=by decide)
    (hs:swapsWith (.Constant (.bool true) k2 p3) (some (.Subscript (.Name x px) key p2)) pos.line X.env=pure false:=by rfl) :
    SD X rg (.Assign [.Subscript (.Name x px) key p2] (.Constant (.bool true) k2 p3) pos) (putV i fk):=by
  refine PS.imp (ps_putE (hu_of hr) (pe_var hN hv hd hcd) hk pe_bl hs) fun E σ H hq_=>?_
  obtain ⟨env,B,Z,o,R,e,kq⟩:=hq_
  obtain ⟨d,e1,e⟩:=Option.bind_eq_some_iff.mp e
  split at e
  · rename_i ks m n hi
    obtain ⟨hlen,rfl⟩:=ifS e
    obtain ⟨y,e3,c,o,e4,e5,e6,bs,rfl,hp⟩:=R.sl i _ hi
    subst e4
    refine ⟨_,e3,env,B,Z,_,R,e1,fun v Z1 H1 x1 g1=>?_⟩
    obtain ⟨b,vs,rfl,q,rr⟩:=g1
    cases Reps.intsV (bs:=[m,n]) rr
    have R1:=R.ext x1
    refine ⟨c,b,ks,bs,m,n,rfl,rfl,rfl,x1.h _ _ e5,(hp.mono x1.z).mono x1.zh,sameT x1.zh q,hlen,?_⟩
    obtain ⟨R3,x3⟩:=R1.wr (es:=.T (putP ks (m,n))) hi e3 (show OwnOk X.K _ c (.T (putP ks (m,n))) _ from ⟨_,rfl,(hp.mono x1.z).put q⟩)
    exact kq σ _ _ ((x1.part R.bh).transB x3) R3
  · cases e
def inQ (neg:Bool):D→D→Option D
  | .tup [.int a,.int b],.dct ks=>some (.bl (if neg then !decide ((a,b)∈ks) else decide ((a,b)∈ks)))
  | _,_=>none
def rInQ (K:Fg) (neg:Bool):R2:=fun x y H Q=>∃ (b c:Addr) (ks:List (Int×Int)) (bs:List Addr) (m n:Int),x=.ref b∧SqT K H b [.int m,.int n]∧y=.ref c∧H c=some (.ext (DicP c ks bs))∧PrAt K H ks bs∧Q (.bl (if neg then !decide ((m,n)∈ks) else decide ((m,n)∈ks))) H
theorem op_inQ (hu:X.A.units+1<cLine) (neg:Bool):OpR X (compareOp (if neg then .NotIn else .In)) (rInQ X.K neg):=by
  intro pins s σ H x y v u Q I rx ry h
  obtain ⟨b,c,ks,bs,m,n,rfl,hq,rfl,hc,hp,q⟩:=h
  cases rx
  cases ry
  obtain ⟨dd,hsm,hz⟩:=dic_in I hc hp
  have hv:(atKey ((ks.zip bs).map kd) (kk (m,n))).isSome=decide ((m,n)∈ks):=by rw [at_kd,zip_fst hp.1.symm]
  cases neg with
  | false=>
    refine wpAny_in_heap (tupleKind_room_in1 hu) (key_sq I hq) hsm dd ?_
    rw [hv]
    exact ⟨.bl _,H,I.tok _,rfl,q⟩
  | true=>
    refine wpAny_notIn_heap (tupleKind_room_in1 hu) (key_sq I hq) hsm dd ?_
    rw [hv]
    exact ⟨.bl _,H,I.tok _,rfl,q⟩
theorem d_inQ {K:Fg} {neg:Bool}:Does K .cl (inQ neg) (rInQ K neg):=fun {Z H x y dx dy d Q} s h1 h2 e kq=>by
  unfold inQ at e
  split at e
  · rename_i m n ks
    cases e
    obtain ⟨b,vs,rfl,q,rr⟩:=h1.tup s
    cases Reps.intsV (bs:=[m,n]) rr
    obtain ⟨c,rfl,bs,qc,hp⟩:=h2.dct s
    exact ⟨b,c,ks,bs,m,n,rfl,q,rfl,qc,hp.mono s,kq _ Z H (Ex.refl s) rfl⟩
  · cases e
theorem b_inQ (hr:Room k X.A) (ha:PD X ga l fa) (hb:PD X gb r fb) (hm:behindInMarks .In r=false:=by rfl):PB X (.Compare l [.In] [r] pos) (fB (op2 (inQ false) fa fb)):=b_cmp (op_inQ (hu_of hr) false) d_inQ ha hb hm
end
end Mi
namespace Mi
open PySem PySem.Spec PyProof.Rows L2
section
variable {X:Cx} {rg:Gr} {pos:Pos}
def extF (i:Nat) (f:Fe):Fs:=fun env=>match env[i]? with
  | some (.O (.L ds))=>(f env).bind fun d=>match d with
    | .lst es=>if ds.length+es.length≤16000000 then some (.nx (env.set i (.O (.L (ds++es))))) else none
    | _=>none
  | _=>none
theorem op_isT (neg:Bool) (b:Bool):OpR X (compareOp (if neg then .IsNot else .Is)) (fun x y H Q=>∃ c,x=.bl c∧y=.bl b∧Q (.bl (if neg then !(c==b) else c==b)) H):=by
  intro pins s σ H x y v u Q I rx ry h
  obtain ⟨c,rfl,rfl,q⟩:=h
  cases rx
  cases ry
  cases neg<;>cases b<;>cases c<;>exact wpAny_pure ⟨.bl _,H,I,rfl,q⟩
end
end Mi
namespace Mi
open PySem PySem.Spec PyProof.Rows L2
section
variable {X:Cx} {rg:Gr} {l r:Expr} {fa fb:Fe} {ga gb:Gr} {pos p p3:Pos}
def isF (neg:Bool):D→D→Option D
  | .bl c,.bl b=>some (.bl (if neg then !(c==b) else c==b))
  | _,_=>none
def rIsB (neg:Bool):R2:=fun x y H Q=>∃ c b,x=.bl c∧y=.bl b∧Q (.bl (if neg then !(c==b) else c==b)) H
theorem op_isB (neg:Bool):OpR X (compareOp (if neg then .IsNot else .Is)) (rIsB neg):=by
  intro pins s σ H x y v u Q I rx ry h
  obtain ⟨c,b,rfl,rfl,q⟩:=h
  exact op_isT neg b pins s σ H _ _ v u Q I rx ry ⟨c,rfl,rfl,q⟩
theorem d_isB {K:Fg} {neg:Bool}:Does K .cl (isF neg) (rIsB neg):=fun {Z H x y dx dy d Q} s h1 h2 e k=>by
  cases dx<;>try cases e
  all_goals (cases dy<;>cases e)
  cases h1.bl;cases h2.bl
  exact ⟨_,_,rfl,rfl,k _ Z H (Ex.refl s) rfl⟩
theorem b_isnt (ha:PD X ga l fa) (hb:PD X gb r fb) (hm:behindInMarks .IsNot r=false:=by rfl):PB X (.Compare l [.IsNot] [r] pos) (fB (op2 (isF true) fa fb)):=b_cmp (op_isB true) d_isB ha hb hm
end
def Its (lo c:Int) (n:Nat):It:=⟨fun i _=>i<n,fun i H x H'=>H'=H∧x=.int (lo+i*c),fun i _=>n≤i⟩
theorem turn_step {P:Program} {w:World} {K:Fg} {tg:Expr} (it:Addr) (lo c:Int) (n:Nat):Turn P w K tg (Its lo c n) [it] it (fun i h=>IsRangeIter h it (lo+(i:Nat)*c) ((n:Int)-(i:Nat)) c) where
  mem:=by simp
  obj:=fun i h st b hb=>by
    have e:b=it:=by simpa using hb
    subst e
    exact ⟨_,st,fun v z=>by have z':Data.fields _=Data.cell v:=z;cases z'⟩
  keep:=fun i h h' st k=>k it (by simp) _ st
  item:=by
    intro X hP hw hK hc i pins s σ H E I hf st hg
    subst hP hw hK
    obtain ⟨f0,f1,f2,f3,f4,f5⟩:=hf it (by simp)
    refine (Walks.range (prog:=X.prog) (w:=X.w) (I.ok.hd hc) it lo c n).item i s _ _ hg st fun v h' tk hv st' kk=>?_
    obtain ⟨t,rfl⟩:=hv
    have I1:L2.Inv X pins σ H { s with heap:=h',toks:=tk }:=I.turned (fun b o hb e=>kk b o (by simpa using hb) e) f0 f1 f3 f4 f5
    exact ⟨_,rfl,go_of (s:={ s with heap:=h',toks:=tk }) (n:="range_iterator") st' rfl rfl (by decide) ⟨.int (lo+i*c),H,I1,⟨t,rfl⟩,⟨rfl,rfl⟩,st',fun b hb=>(hf b hb).1⟩⟩
  done:=by
    intro X hP hw hK hc i pins s σ H E I hf st hg
    subst hP hw hK
    obtain ⟨f0,f1,f2,f3,f4,f5⟩:=hf it (by simp)
    exact wpAny_pyNext_range_end (I.ok.hd hc) st (by have:n≤i:=hg;omega) fun h' eb=>⟨rfl,I.turned (t':=s.toks) (fun b o hb e=>eb b o hb e) f0 f1 f3 f4 f5⟩
  self:=fun _ _ _ _ _ st h=>wpAny_pyIter_rangeiter st h
def stepN (a b c:Int):Nat:=if a<b then ((b-a-1)/c+1).toNat else 0
theorem stepN_size {a b c:Int} (hc:0<c):Builtin.Range.rangeSize a b c=(stepN a b c:Int):=by
  unfold Builtin.Range.rangeSize stepN
  rw [if_pos hc]
  by_cases h:a<b
  · rw [if_pos h,if_pos h,Int.toNat_of_nonneg]
    have:=Int.ediv_nonneg (show 0≤b-a-1 by omega) (Int.le_of_lt hc)
    omega
  · rw [if_neg h,if_neg h];rfl
def small9 (i:Int):Bool:=decide (-1000000000≤i∧i≤1000000000)
theorem small_step {a b c:Int} (hc:0<c) (h1:small9 a=true) (h2:small9 b=true) (h3:small9 c=true):Builtin.Range.small a b c=true:=by
  have h1:=of_decide_eq_true h1
  have h2:=of_decide_eq_true h2
  have h3:=of_decide_eq_true h3
  have hn:(b-a-1)/c≤2000000000∨¬ a<b:=by
    by_cases h:a<b
    · exact .inl (Int.le_trans (Int.ediv_le_self _ (by omega)) (by omega))
    · exact .inr h
  unfold Builtin.Range.small
  rw [stepN_size hc]
  have hst:(stepN a b c:Int)≤2000000001:=by
    unfold stepN
    by_cases h:a<b
    · rw [if_pos h]
      rcases hn with hn | hn
      · omega
      · exact absurd h hn
    · rw [if_neg h];decide
  simp only [Builtin.Range.rangeFitsLong,Bool.and_eq_true,Bool.or_eq_true,decide_eq_true_eq,beq_iff_eq]
  refine ⟨⟨⟨⟨⟨by omega,by omega⟩,by omega,by omega⟩,by omega,by omega⟩,by omega,by omega⟩,.inr ?_⟩
  rw [if_pos hc]
  simp only [Bool.and_eq_true,decide_eq_true_eq]
  omega
section
variable {X:Cx} {tg:Expr}
theorem step_it {pins:List (Addr×Obj)} {σ:L2.St} {H:Hp} {s:Shared} {R:It→Hp→Prop} {E:Value→Shared→Prop} {a b c:Int} {t u v:Tok} {tk:Nat} (I:L2.Inv X pins σ H s) (hc:0<c) (h1:small9 a=true) (h2:small9 b=true) (h3:small9 c=true)
    (q:R (Its a c (stepN a b c)) H):wpAny (model X.prog X.w) X.A (pyIter (.ref s.heap.objs.size)) (PIE X pins σ tg R) E { s with heap:=s.heap.push { cls:=.type "range",data:=.fields #[.int a t,.int b u,.int c v] },toks:=tk }:=by
  refine wpAny_pyIter_range (IsRange.new ..) (small_step hc h1 h2 h3) ?_
  have I1:L2.Inv X pins σ H { s with heap:=s.heap.push { cls:=.type "range",data:=.fields #[.int a t,.int b u,.int c v] },toks:=tk }:=I.kept fun b o e=>Heap.get?_push_of_some _ e
  refine ⟨(s.heap.push { cls:=.type "range",data:=.fields #[.int a t,.int b u,.int c v] }).objs.size,[(s.heap.push { cls:=.type "range",data:=.fields #[.int a t,.int b u,.int c v] }).objs.size],_,_,H,rfl,
    I1.kept (t':=tk) fun b o e=>Heap.get?_push_of_some _ e,turn_step _ a c (stepN a b c),?_,fun b' hb=>?_,q⟩
  · rw [stepN_size hc]
    show IsRangeIter _ _ (a+((0:Nat):Int)*c) ((stepN a b c:Int)-((0:Nat):Int)) c
    rw [show a+((0:Nat):Int)*c=a by simp,show (stepN a b c:Int)-((0:Nat):Int)=(stepN a b c:Int) by simp]
    exact Heap.get?_push_size _ rfl
  · have e:b'=(s.heap.push { cls:=.type "range",data:=.fields #[.int a t,.int b u,.int c v] }).objs.size:=by simpa using hb
    subst e
    exact I1.fpOk (Nat.le_refl _) (I1.hok.fresh (Nat.le_refl _))
def iRng3 (ta:TA):TI:=fun σ H R=>ta σ H fun vs H1=>∃ a b c:Int,vs=[.int a,.int b,.int c]∧0<c∧small9 a=true∧small9 b=true∧small9 c=true∧R (Its a c (stepN a b c)) H1
theorem pi_range3 {x y z:Expr} {ta:TA} {p pos:Pos} (hg:Gl X "range") (hm:X.mg "range"=none) (ha:PA X [x,y,z] ta) (hs:starEach [x,y,z] X.env=(false,eval x X.env)::starEach [y,z] X.env:=by rfl) (hpl:(backTo pos (starEach [y,z] X.env)).any (·.1)=false:=by rfl) :
    PI X tg (.Call (.Name "range" p) [x,y,z] [] pos) (iRng3 ta):=by
  intro pins s σ H R I h
  refine Call_ (ld_blt I hg hm boot_range (PyProof.Rows.callWith_type1 (thn (ha pos pins s σ H _ I h) fun us s1 hq_=>?_) hs hpl))
  obtain ⟨vs,H1,I1,r1,q1⟩:=hq_
  obtain ⟨a,b,c,e,hc,h1,h2,h3,q⟩:=q1
  subst e
  cases r1 with
  | cons r rr=>
    cases rr with
    | cons r' rr=>
      cases rr with
      | cons r'' rr=>
        cases rr
        obtain ⟨t,rfl⟩:=r
        obtain ⟨t',rfl⟩:=r'
        obtain ⟨t'',rfl⟩:=r''
        have hb:(b-a).natAbs<2 ^ 63:=by
          have h1:=of_decide_eq_true h1
          have h2:=of_decide_eq_true h2
          omega
        exact call_range_3 (by omega) (step_it I1 hc h1 h2 h3 q) (.inl (PyProof.noPylong_small (by have h3:=of_decide_eq_true h3;omega)))
def stepL (a c:Int) (n:Nat):List D:=(List.range n).map fun i=>.int (a+(i:Nat)*c)
theorem walk_step {K:Fg} {Z1:Hp} (a c:Int) (n:Nat):Walk K Z1 (stepL a c n) (Its a c n):=fun Z' H' s1 s2 i=>by
  have hl:(stepL a c n).length=n:=by simp [stepL]
  rw [hl]
  refine ⟨fun hi=>⟨hi,fun x H'' hq_=>?_⟩,fun h=>h⟩
  obtain ⟨e,y⟩:=hq_
  subst e
  subst y
  exact ⟨Z',.int (a+i*c),Ex.refl s2,by simp [stepL,hi],rfl⟩
def itR3 (f g h:Fe):Fi:=fun env=>(f env).bind fun x=>(g env).bind fun y=>(h env).bind fun z=>match x,y,z with
  | .int a,.int b,.int c=>if (small9 a&&small9 b&&small9 c&&decide (0<c))=true then some (stepL a c (stepN a b c)) else none
  | _,_,_=>none
theorem i_range3 {x y z:Expr} {f g h:Fe} {ga gb gc:Gr} {p pos:Pos} (hm:X.mg "range"=none) (h1:PD X ga x f) (h2:PD X gb y g) (h3:PD X gc z h) (hg:Gl X "range":=by rfl) (hs:starEach [x,y,z] X.env=(false,eval x X.env)::starEach [y,z] X.env:=by rfl)
    (hs2:starEach [y,z] X.env=(false,eval y X.env)::starEach [z] X.env:=by rfl) (hs3:starEach [z] X.env=[(false,eval z X.env)]:=by rfl) (hpl:(backTo pos (starEach [y,z] X.env)).any (·.1)=false:=by rfl):ID X tg (.Call (.Name "range" p) [x,y,z] [] pos) (itR3 f g h):=
  PI.imp (pi_range3 hg hm (pa_cons h1 (pa_cons h2 (pa_cons h3 pa_nil hs3) hs2) hs) hs hpl) fun σ H R hq_=>by
    obtain ⟨env,B,Z,ds,Rr,e,k⟩:=hq_
    obtain ⟨d1,e1,e⟩:=Option.bind_eq_some_iff.mp e
    obtain ⟨d2,e2,e⟩:=Option.bind_eq_some_iff.mp e
    obtain ⟨d3,e3,e4⟩:=Option.bind_eq_some_iff.mp e
    cases d1<;>try cases e4
    cases d2<;>try cases e4
    cases d3<;>try cases e4
    obtain ⟨hj,rfl⟩:=ifS e4
    simp only [Bool.and_eq_true,decide_eq_true_eq] at hj
    refine ⟨env,B,Z,_,Rr,e1,fun v Z1 H1 x1 g1=>⟨env,B,Z1,_,Rr.ext x1,e2,fun u Z2 H2 x2 g2=>⟨env,B,Z2,_,(Rr.ext x1).ext x2,e3,fun w Z3 H3 x3 g3=>?_⟩⟩⟩
    exact ⟨_,_,_,by rw [g1.int,g2.int,g3.int],hj.2,hj.1.1.1,hj.1.1.2,hj.1.2,k _ Z3 H3 ((x1.trans x2).trans x3) (walk_step _ _ _)⟩
end
end Mi
namespace Mi
open PySem PySem.Spec PyProof.Rows L2
section
variable {prog:Program} {w:World} {A:Around} {E:Value→Shared→Prop} {s:Shared} {e i l:Addr} {k:Nat} {xs:List Value} {x old:Value} {it:Nat→Heap→Prop} {at_:List Value→Heap→Prop}
end
end Mi
namespace Mi
open PySem PySem.Spec PyProof.Rows L2
section
variable {X:Cx} {es:List Expr} {kk:Nat} {tp:Pos}
end
end Mi
namespace Mi
open PySem PySem.Spec PyProof.Rows L2
section
variable {X:Cx} {l r:Expr} {fa fb:Fe} {ga gb:Gr} {pos p:Pos} {k:Nat}
end
def ltK:Key→Key→Option Bool
  | .inl a,.inl b=>some (decide (a<b))
  | .inr a,.inr b=>some (decide (a.cps.toList<b.cps.toList))
  | _,_=>none
def lexK:List Key→List Key→Option Bool
  | [],[]=>some false
  | [],_::_=>some true
  | _::_,[]=>some false
  | x::xs,y::ys=>if x=y then lexK xs ys else ltK x y
inductive KsAre:List Value→List Key→Prop
  | nil:KsAre [] []
  | int (n:Int) (t:Tok) {vs ks}:KsAre vs ks→KsAre (.int n t::vs) (.inl n::ks)
  | str (x:Str) (t:Tok) {vs ks}:KsAre vs ks→KsAre (.str x t::vs) (.inr x::ks)
theorem KsAre.of:∀ {ks:List Key} {us:List Value},Vals (ks.map kV) us→KsAre us ks
  | [],_,r=>by rw [List.map_nil] at r;cases r;exact .nil
  | .inl n::ks,_,r=>by
    rw [List.map_cons] at r
    cases r with
    | cons h t=>obtain ⟨tk,rfl⟩:=(show ∃ t,_=Value.int n t from h);exact .int n tk (KsAre.of t)
  | .inr x::ks,_,r=>by
    rw [List.map_cons] at r
    cases r with
    | cons h t=>obtain ⟨tk,rfl⟩:=(show ∃ t,_=Value.str x t from h);exact .str x tk (KsAre.of t)
theorem rcLt_str (A:Around) (s:Shared) (a:Str) (t:Tok) (c:Str) (u:Tok) (prog:Program) (w:World) (E:Value→Shared→Prop) (Q:Value→Shared→Prop) (h:Q (.bool (decide (a.cps.toList<c.cps.toList))) s) :
    wpAny (model prog w) A (richCompare .Lt (.str a t) (.str c u)) Q E s:=
  (PyProof.Rows.lt_str h:wpAny (model prog w) A (compareOp .Lt (.str a t) (.str c u)) Q E s)
section
open PySem.SeqAt
open PySem.AutoSeq1 (wpAny_loadPart')
open PySem.MeetsSeq PySem.MeetsSeq2 PySem.MeetsSeq3
end
section
variable {X:Cx} {l r:Expr} {fa fb:Fe} {ga gb:Gr} {pos p:Pos} {k:Nat}
def unKey:List D→Option (List Key)
  | []=>some []
  | .int i::r=>(unKey r).bind fun ks=>some (.inl i::ks)
  | .str x::r=>(unKey r).bind fun ks=>some (.inr x::ks)
  | _=>none
theorem unKey_rep {K:Fg} {H:Hp}:∀ {ds:List D} {ks:List Key} {vs:List V},unKey ds=some ks→Reps K H ds vs→vs=ks.map kV
  | [],ks,vs,h,r=>by cases h;exact r
  | d::ds,ks,vs,h,r=>by
    obtain ⟨v,rr,e,h1,h2⟩:=r
    subst e
    cases d<;>try cases h
    · obtain ⟨ks',e1,e2⟩:=Option.bind_eq_some_iff.mp h
      cases e2
      cases (show v=_ from h1)
      rw [unKey_rep e1 h2];rfl
    · obtain ⟨ks',e1,e2⟩:=Option.bind_eq_some_iff.mp h
      cases e2
      cases (show v=_ from h1.1)
      rw [unKey_rep e1 h2];rfl
end
end Mi
namespace Mi
open PySem PySem.Spec PyProof.Rows L2
section
variable {prog:Program} {w:World} {A:Around} {E:Value→Shared→Prop} {s:Shared} {z TI TO i1 i2 l1 l2 T:Addr} {k1 k2:Nat} {xs ys:List Value} {x y:Value} {it1 it2:Nat→Heap→Prop} {at1 at2:List Value→Heap→Prop} {oT:Obj} {bz:Bool}
end
end Mi
namespace Mi
open PySem PySem.Spec PyProof.Rows L2
section
variable {prog:Program} {w:World} {A:Around} {E:Value→Shared→Prop} {s:Shared} {z TI TO i1 i2 l1 l2:Addr} {xs ys:List Value}
end
end Mi
namespace Mi
open PySem PySem.Spec PyProof.Rows L2
section
variable {X:Cx} {l r:Expr} {fa fb:Fe} {pos pos2 p p2:Pos}
end
end Mi
namespace Mi
open PySem PySem.Spec PyProof.Rows L2
section
variable {X:Cx}
variable {l r q:Expr} {fa fb fc:Fe} {ga gb gc:Gr} {pos p:Pos}
end
def risesK:List (List Key)→Bool
  | a::b::r=>decide (lexK b a=some false)&&risesK (b::r)
  | _=>true
def headI:List Key→Bool
  | .inl _::_=>true
  | _=>false
theorem risesK_at:∀ {l:List (List Key)} {i:Nat} {a b:List Key},risesK l=true→l[i]?=some a→l[i+1]?=some b→lexK b a=some false
  | [],i,a,b,_,h,_=>by simp at h
  | [x],i,a,b,_,h,h2=>by cases i<;>simp at h2
  | x::y::r,0,a,b,hr,h,h2=>by
    unfold risesK at hr
    rw [Bool.and_eq_true,decide_eq_true_eq] at hr
    simp at h h2
    subst h;subst h2
    exact hr.1
  | x::y::r,i+1,a,b,hr,h,h2=>by
    unfold risesK at hr
    rw [Bool.and_eq_true] at hr
    exact risesK_at (l:=y::r) (i:=i) hr.2 (by simpa using h) (by simpa using h2)
section
variable {prog:Program} {w:World} {A:Around} {E:Value→Shared→Prop} {s:Shared}
theorem minRun_le:∀ (f n r:Nat),r≤1→minRun' f n r≤n+r∧(64≤n→minRun' f n r≤n+r)
  | 0,n,r,h=>⟨Nat.le_refl _,fun _=>Nat.le_refl _⟩
  | f+1,n,r,h=>by
    have key:minRun' (f+1) n r≤n+r:=by
      rw [minRun'_succ]
      split
      · exact Nat.le_refl _
      · have hm:max r (n%2)≤1:=by omega
        have:=(minRun_le f (n/2) (max r (n%2)) hm).1
        omega
    exact ⟨key,fun _=>key⟩
theorem wpS_ltUp {st:SortSt} {i j:Nat} {κ:SortKind} {x y:Value} {p q:Value} {b:Bool} {Q:Option Bool→SortSt→Prop} (hk:kindOf st=κ)
    (hi:(arrOf st)[i]?=some (x,p)) (hj:(arrOf st)[j]?=some (y,q)) (hlt:∀ (E:Value→Shared→Prop) (Q:Bool→Shared→Prop),Q b s→wpAny (model prog w) A (keyLt' κ x y) Q E s) (h:Q (some b) st) :
    wpS (model prog w) A E s (ltAt' i j) Q st:=by
  rw [ltAt'_eq]
  refine wpS_bind (wpS_get ?_)
  show wpS _ _ _ _ (do let x ← elem' (arrOf st) i;let y ← elem' (arrOf st) j;lt' x y) Q st
  rw [elem'_eq,elem'_eq,hi,hj]
  refine wpS_bind (wpS_pure (wpS_bind (wpS_pure ?_)))
  rw [lt'_eq]
  refine wpS_bind (wpS_get ?_)
  rw [hk]
  refine wpS_bind (wpS_lift (wpAny_attempt (hlt _ _ ⟨rfl,?_⟩)))
  exact wpS_pure h
theorem sortRuns_up {st:SortSt} {κ:SortKind} {a₀:Array Keyed} {Q:Unit→SortSt→Prop} (hk:kindOf st=κ) (ha:arrOf st=a₀) (hf:failedOf st=none) (hp:pendingOf st=#[]) (h2:2≤a₀.size)
    (hlt:∀ i x y p q,a₀[i+1]?=some (x,p)→a₀[i]?=some (y,q)→∀ (E:Value→Shared→Prop) (Q:Bool→Shared→Prop),Q false s→wpAny (model prog w) A (keyLt' κ x y) Q E s)
    (h:∀ st',arrOf st'=a₀→failedOf st'=none→Q () st'):wpS (model prog w) A E s sortRuns' Q st:=by
  rw [sortRuns'_eq]
  refine wpS_bind (wpS_get ?_)
  dsimp only
  have hmr:¬ a₀.size<minRun' a₀.size a₀.size 0:=by have:=(minRun_le a₀.size a₀.size 0 (by omega)).1;omega
  simp only [ha]
  refine wpS_bind (wpS_mono (wpS_forRange
    (I:=fun x c st'=>(x=0∧c=(none,0)∧st'=st)∨(1≤x∧c=(none,a₀.size)∧arrOf st'=a₀∧failedOf st'=none∧pendingOf st'=#[(0,a₀.size,0)]))
    (Q:=fun c st'=>c=(none,a₀.size)∧arrOf st'=a₀∧failedOf st'=none∧pendingOf st'=#[(0,a₀.size,0)]) ?step ?fin (.inl ⟨rfl,rfl,rfl⟩)) ?post)
  case fin=>
    rintro c st' (⟨hx,_,_⟩ | ⟨_,hc,hD⟩)
    · omega
    · exact ⟨hc,hD⟩
  case step=>
    rintro x c st' _ hx (⟨rfl,rfl,rfl⟩ | ⟨hx1,rfl,hD⟩)
    · dsimp only
      rw [if_neg (by omega)]
      simp only [Nat.sub_zero,Nat.min_self,Nat.zero_add]
      rw [countRun0_eq]
      refine wpS_bind (wpS_bind ?_)
      unfold ascLoop
      refine wpS_mono (wpS_forRange (I:=fun x c st''=>st''=st'∧c=(none,x)) (Q:=fun c st''=>st''=st'∧c=(none,a₀.size)) ?s2 ?f2 ⟨rfl,rfl⟩) ?p2
      case f2=>
        rintro c st'' ⟨rfl,rfl⟩
        exact ⟨rfl,by rw [show max 1 a₀.size=a₀.size by omega]⟩
      case s2=>
        rintro x c st'' hx1 hx2 ⟨rfl,rfl⟩
        dsimp only
        obtain ⟨⟨u,p⟩,e1⟩:∃ u,a₀[x]?=some u:=⟨_,Array.getElem?_eq_getElem hx2⟩
        obtain ⟨⟨v,q⟩,e2⟩:∃ u,a₀[x-1]?=some u:=⟨_,Array.getElem?_eq_getElem (by omega)⟩
        refine wpS_bind (wpS_ltUp (b:=false) hk (by rw [ha];exact e1) (by rw [ha];exact e2) (hlt (x-1) u v p q (by rw [show x-1+1=x by omega];exact e1) e2) ?_)
        simp only [Bool.false_eq_true,if_false]
        exact wpS_pure ⟨rfl,rfl⟩
      case p2=>
        rintro c st'' ⟨rfl,rfl⟩
        dsimp only
        rw [if_pos (by simp)]
        refine wpS_pure ?_
        dsimp only
        rw [if_neg hmr]
        refine wpS_bind (wpS_get ?_)
        rw [show (pendingOf st'').back?=none by rw [hp];rfl]
        dsimp only
        refine wpS_bind (wpS_modify (wpS_pure (.inr ⟨by omega,rfl,ha,hf,?_⟩)))
        show (pendingOf st'').push _=_
        rw [hp];rfl
    · dsimp only
      rw [if_pos (Nat.le_refl _)]
      exact wpS_pure ⟨rfl,hD⟩
  case post=>
    rintro c st' ⟨rfl,hD⟩
    dsimp only
    refine wpS_bind (wpS_mono (wpS_forRange (I:=fun _ c st''=>st''=st'∧c=(none,())) (Q:=fun c st''=>st''=st'∧c=(none,())) ?_ (fun _ _ hh=>hh) ⟨rfl,rfl⟩) ?_)
    · rintro x c st'' _ _ ⟨rfl,rfl⟩
      refine wpS_bind (wpS_get ?_)
      rw [if_pos (by rw [hD.2.2];exact Nat.le_refl 1)]
      exact wpS_pure ⟨rfl,rfl⟩
    · rintro c st'' ⟨rfl,rfl⟩
      exact wpS_pure (h _ hD.1 hD.2.1)
theorem katK {Q:Bool→Shared→Prop}:∀ {xs ys:List Value} {ks js:List Key} {q:Bool} {i:Nat},KsAre xs ks→KsAre ys js→lexK ks js=some q→(i=0→headI ks=true∧headI js=true)→Q q s→
    PySem.W.KatLex prog w A true (decide (xs.length<ys.length)) Q (xs.zip ys) i s
  | _,_,_,_,q,i,.nil,.nil,h,_,hq=>by
    cases h;exact PySem.W.kat_nil (by simpa using hq)
  | _,_,_,_,q,i,.nil,.int _ _ r,h,_,hq=>by cases h;exact PySem.W.kat_nil (by simpa using hq)
  | _,_,_,_,q,i,.nil,.str _ _ r,h,_,hq=>by cases h;exact PySem.W.kat_nil (by simpa using hq)
  | _,_,_,_,q,i,.int _ _ r,.nil,h,_,hq=>by cases h;exact PySem.W.kat_nil (by simpa using hq)
  | _,_,_,_,q,i,.str _ _ r,.nil,h,_,hq=>by cases h;exact PySem.W.kat_nil (by simpa using hq)
  | _,_,_,_,q,i,.int n t r1,.str y u r2,h,_,hq=>by
    have h':(if (Sum.inl n:Key)=.inr y then _ else ltK (.inl n) (.inr y))=some q:=h
    rw [if_neg (fun z=>nomatch z)] at h'
    cases h'
  | _,_,_,_,q,i,.str x t r1,.int m u r2,h,_,hq=>by
    have h':(if (Sum.inr x:Key)=.inl m then _ else ltK (.inr x) (.inl m))=some q:=h
    rw [if_neg (fun z=>nomatch z)] at h'
    cases h'
  | _,_,_,_,q,i,@KsAre.int n t xs ks r1,@KsAre.int m u ys js r2,h,h0,hq=>by
    have h':(if (Sum.inl n:Key)=.inl m then lexK ks js else ltK (.inl n) (.inl m))=some q:=h
    refine PySem.W.kat_cons (SeqAt.EqAt.int_int n t m u prog w _ _ ?_)
    by_cases e:n=m
    · subst e
      rw [if_pos rfl] at h'
      rw [show (n==n)=true by simp]
      refine PySem.W.kat_yes ?_
      have:=katK (i:=i+1) r1 r2 h' (fun z=>by omega) hq
      rw [show ∀ (a b:Value),decide ((a::xs).length<(b::ys).length)=decide (xs.length<ys.length) from fun a b=>by simp]
      exact this
    · rw [if_neg (fun z=>e (Sum.inl.inj z))] at h'
      cases h'
      rw [show (n==m)=false by simpa using e]
      refine PySem.W.kat_no ?_
      by_cases hi:i=0
      · subst hi
        exact oneLt_int hq
      · rw [show (true&&i==0)=false by simp [hi]]
        exact PySem.W.kat_one _ _ (HT.rcLt_int A s n t m u prog w _ _ hq)
  | _,_,_,_,q,i,@KsAre.str x t xs ks r1,@KsAre.str y u ys js r2,h,h0,hq=>by
    have h':(if (Sum.inr x:Key)=.inr y then lexK ks js else ltK (.inr x) (.inr y))=some q:=h
    have hi:i≠0:=fun z=>by have:=(h0 z).1;cases this
    refine PySem.W.kat_cons (SeqAt.EqAt.str_str x t y u prog w _ _ ?_)
    by_cases e:x=y
    · subst e
      rw [if_pos rfl] at h'
      rw [show (x==x)=true by simp]
      refine PySem.W.kat_yes ?_
      have:=katK (i:=i+1) r1 r2 h' (fun z=>by omega) hq
      rw [show ∀ (a b:Value),decide ((a::xs).length<(b::ys).length)=decide (xs.length<ys.length) from fun a b=>by simp]
      exact this
    · rw [if_neg (fun z=>e (Sum.inr.inj z))] at h'
      cases h'
      rw [show (x==y)=false by simpa using e]
      refine PySem.W.kat_no ?_
      rw [show (true&&i==0)=false by simp [hi]]
      exact PySem.W.kat_one _ _ (rcLt_str A s x t y u prog w _ _ hq)
end
end Mi
namespace Mi
open PySem PySem.Spec PyProof.Rows L2
def TupsK (h:Heap):List Value→List (List Key)→Prop
  | [],[]=>True
  | v::vs,ks::kss=>(∃ a o xs n,v=.ref a∧h.get? a=some o∧o.cls=.type "tuple"∧o.data=.seq xs n∧KsAre xs.toList ks)∧TupsK h vs kss
  | _,_=>False
theorem TupsK.keeps {h h':Heap} (k:∀ a o,h.get? a=some o→o.cls=.type "tuple"→h'.get? a=some o):∀ {vs:List Value} {kss:List (List Key)},TupsK h vs kss→TupsK h' vs kss
  | [],[],t=>t
  | [],_::_,t=>t.elim
  | _::_,[],t=>t.elim
  | _::_,_::_,⟨⟨a,o,xs,n,e,ho,hc,hd,r⟩,t⟩=>⟨⟨a,o,xs,n,e,k a o ho hc,hc,hd,r⟩,TupsK.keeps k t⟩
theorem TupsK.at {h:Heap}:∀ {vs:List Value} {kss:List (List Key)} {i:Nat} {v:Value},TupsK h vs kss→vs[i]?=some v→∃ a o xs n ks,v=.ref a∧h.get? a=some o∧o.cls=.type "tuple"∧o.data=.seq xs n∧kss[i]?=some ks∧KsAre xs.toList ks
  | [],[],i,v,_,e=>by simp at e
  | [],_::_,_,_,t,_=>t.elim
  | _::_,[],_,_,t,_=>t.elim
  | w::vs,ks::kss,0,v,⟨⟨a,o,xs,n,e,ho,hc,hd,r⟩,t⟩,e2=>by simp at e2;subst e2;exact ⟨a,o,xs,n,ks,e,ho,hc,hd,rfl,r⟩
  | w::vs,ks::kss,i+1,v,⟨_,t⟩,e2=>by
    obtain ⟨a,o,xs,n,ks',g⟩:=TupsK.at (i:=i) t (by simpa using e2)
    exact ⟨a,o,xs,n,ks',by simpa using g⟩
theorem TupsK.firsts {h:Heap}:∀ {vs:List Value} {kss:List (List Key)},TupsK h vs kss→kss.all headI=true→∃ fs,PySem.W.KatTups h vs fs∧fs.length=vs.length∧∀ f∈fs,∃ n t,f=Value.int n t
  | [],[],_,_=>⟨[],trivial,rfl,fun _ h=>by cases h⟩
  | [],_::_,t,_=>t.elim
  | _::_,[],t,_=>t.elim
  | w::vs,ks::kss,⟨⟨a,o,xs,n,e,ho,hc,hd,r⟩,t⟩,hh=>by
    rw [List.all_cons,Bool.and_eq_true] at hh
    obtain ⟨fs,h1,h2,h3⟩:=TupsK.firsts t hh.2
    subst e
    obtain ⟨xs⟩:=xs
    cases r with
    | nil=>cases hh.1
    | str x t r=>cases hh.1
    | int m tk r=>
      refine ⟨.int m tk::fs,PySem.W.KatTups.cons ho hc hd (by simp) h1,by simp [h2],fun f hf=>?_⟩
      rcases List.mem_cons.mp hf with rfl | hf
      · exact ⟨_,_,rfl⟩
      · exact h3 f hf
section
variable {prog:Program} {w:World} {A:Around} {E:Value→Shared→Prop} {s:Shared}
theorem list_sort_up {a:Addr} {vs:List Value} {kss:List (List Key)} {n:Nat} {P:PySem.Fin→Shared→Prop} (ho:s.heap.get? a=some (seqObj "list" vs.toArray n))
    (ht:TupsK s.heap vs kss) (hh:kss.all headI=true) (hr:risesK kss=true) (hz:vs.length≤sizeLine) (h:P (.done (.ret .none)) { s with heap:=sortedHeap s.heap a vs vs.toArray }) :
    wpAny (model prog w) A (Builtin.«list.sort» ⟨[.ref a],[]⟩) P E s:=by
  rw [list_sort_plain]
  have ha:a<s.heap.objs.size:=Heap.lt_size ho
  refine wpAny_bind (listItems_at ho rfl ?_)
  refine wpAny_bind (listUpdate_at ho rfl ?_ (by simpa using hz) (by simp))
  obtain ⟨e1,ho1⟩:∃ e1,(s.heap.update a (Obj.mapSeq fun _=>#[])).get? a=some (seqObj "list" #[] e1):=⟨_,get?_update_seq ho (fun _=>#[])⟩
  refine wpAny_bind (seqEpoch_at ho1 rfl ?_)
  refine wpAny_bind (wpAny_newTuple ?_)
  refine wpAny_bind (wpAny_newList ?_)
  refine wpAny_holding ?_
  have ho6:(((s.heap.update a (Obj.mapSeq fun _=>#[])).push (seqObj "tuple" vs.toArray 0)).push (seqObj "list" #[] 0)).get? a=some (seqObj "list" #[] e1):=by
    rw [Heap.get?_push_ne _ _ _ (by rw [size_push',Heap.size_update];exact Nat.ne_of_lt (Nat.lt_succ_of_lt ha)),Heap.get?_push_ne _ _ _ (by rw [Heap.size_update];exact Nat.ne_of_lt ha)]
    exact ho1
  show wpAny (model prog w) A _ P E { s with heap:=((s.heap.update a (Obj.mapSeq fun _=>#[])).push (seqObj "tuple" vs.toArray 0)).push (seqObj "list" #[] 0) }
  have ht2:TupsK (((s.heap.update a (Obj.mapSeq fun _=>#[])).push (seqObj "tuple" vs.toArray 0)).push (seqObj "list" #[] 0)) vs kss:=ht.keeps fun b o hb hc=>by
    refine Heap.get?_push_of_some _ (Heap.get?_push_of_some _ ?_)
    rw [Heap.get?_update_ne _ _ _ _ (fun z=>?_)]
    · exact hb
    · subst z;rw [ho] at hb;cases hb;injection (show Value.type "list"=Value.type "tuple" from hc) with e;exact absurd e (by decide)
  dsimp only
  have hsz:vs.toArray.size=vs.length:=by simp
  have hmap:(vs.toArray.zip vs.toArray).map (·.2)=vs.toArray:=by
    apply Array.ext
    · simp
    · intro i h1 h2;simp
  by_cases h2:vs.toArray.size<2
  · rw [if_pos h2,if_pos h2]
    refine wpAny_bind (wpAny_pure ?_)
    rw [StateT.run_pure]
    refine wpAny_bind (wpAny_pure ?_)
    dsimp only
    refine wpAny_bind (seqEpoch_at ho6 rfl ?_)
    refine wpAny_bind (listUpdate_at ho6 rfl ?_ (hsz2:=by rw [Array.size_map];rw [Array.size_zip,hsz,Nat.min_self];omega))
    simp only [bne_self_eq_false,Bool.false_eq_true,if_false]
    refine wpAny_pure ?_
    show P (.done (.ret .none)) { s with heap:=(((s.heap.update a (Obj.mapSeq fun _=>#[])).push (seqObj "tuple" vs.toArray 0)).push (seqObj "list" #[] 0)).update a (Obj.mapSeq fun _=>(vs.toArray.zip vs.toArray).map (·.2)) }
    rw [hmap];exact h
  · rw [if_neg h2,if_neg h2]
    obtain ⟨fs,f1,f2,f3⟩:=ht2.firsts hh
    refine wpAny_bind (PySem.W.kat_kind (T:=.type "int") f1 (by omega) (fun v hv=>?_) (by simp) ?_)
    · obtain ⟨m,t,rfl⟩:=f3 v hv
      exact PySem.W.Looks.now
    rw [show (Value.type "int" != Value.type "tuple")=true by decide]
    refine wpAny_bind (wpAny_mono (sortRuns_up (κ:=tuples' true) (a₀:=vs.toArray.zip vs.toArray) (st:=SortSt.mk' (tuples' true) (vs.toArray.zip vs.toArray) #[] 7 none)
      (Q:=fun _ st'=>arrOf st'=vs.toArray.zip vs.toArray∧failedOf st'=none) rfl rfl rfl rfl (by simp at h2 ⊢;omega) ?_ fun st' b1 b2=>⟨b1,b2⟩) ?_ fun _ _ e=>e)
    · intro i x y p q hx hy E' Q' hq
      have hx':vs[i+1]?=some x:=by
        have:(vs.toArray.zip vs.toArray).toList[i+1]?=some (x,p):=by simpa using hx
        rw [Array.toList_zip] at this
        obtain ⟨z1,z2⟩:=List.getElem?_zip_eq_some.mp this
        exact z1
      have hy':vs[i]?=some y:=by
        have:(vs.toArray.zip vs.toArray).toList[i]?=some (y,q):=by simpa using hy
        rw [Array.toList_zip] at this
        obtain ⟨z1,z2⟩:=List.getElem?_zip_eq_some.mp this
        exact z1
      obtain ⟨b,o,xs,k,ks,rfl,c1,c2,c3,c4,c5⟩:=ht2.at hx'
      obtain ⟨b',o',xs',k',ks',rfl,d1,d2,d3,d4,d5⟩:=ht2.at hy'
      refine PySem.W.kat_lt c1 c3 d1 d3 ?_
      have hd:decide (xs.size<xs'.size)=decide (xs.toList.length<xs'.toList.length):=by simp
      rw [hd]
      exact katK c5 d5 (risesK_at hr d4 c4) (fun _=>⟨List.all_eq_true.mp hh _ (List.mem_of_getElem? c4),List.all_eq_true.mp hh _ (List.mem_of_getElem? d4)⟩) hq
    rintro ⟨⟨⟩,st'⟩ s' ⟨rfl,hp,hf⟩
    dsimp only at hp hf ⊢
    rw [hp,hmap,hf]
    refine wpAny_bind (seqEpoch_at ho6 rfl ?_)
    refine wpAny_bind (listUpdate_at ho6 rfl ?_ (hsz2:=by rw [hsz];omega))
    simp only [bne_self_eq_false,Bool.false_eq_true,if_false]
    exact wpAny_pure h
theorem sortedUp {a:Addr} {o:Obj} {n:Nat} {vs:List Value} {kss:List (List Key)} {Q:Value→Shared→Prop} (ho:s.heap.get? a=some o) (hc:o.cls=.type "list"∨o.cls=.type "tuple") (hd:o.data=.seq vs.toArray n)
    (ht:TupsK s.heap vs kss) (hh:kss.all headI=true) (hr:risesK kss=true) (hz:vs.length≤sizeLine)
    (q:Q (.ref (s.heap.objs.size+1)) { s with heap:=sortedAll s.heap vs vs.toArray }):wpAny (model prog w) A (call (.builtin "sorted") [.ref a]) Q E s:=by
  refine Calls.call_function_entry PyProof.Rows.kind_sorted plain_sorted entry_sorted (args_sorted1 _) ?_
  unfold Builtin.«sorted»
  refine wpAny_bind (m:=checkCount "sorted" 1 1 _) (wpAny_pure (wpAny_bind (collectS ho hc hd (wpAny_bind (wpAny_newList ?_)) hz)))
  have z1:((s.heap.push (seqObj "list" #[] 0)).update s.heap.objs.size (Obj.mapSeq (·++vs.toArray))).objs.size=s.heap.objs.size+1:=by rw [Heap.size_update,size_push']
  have z2:(((s.heap.push (seqObj "list" #[] 0)).update s.heap.objs.size (Obj.mapSeq (·++vs.toArray))).push (seqObj "list" vs.toArray 0)).get? (s.heap.objs.size+1)=some (seqObj "list" vs.toArray 0):=by
    rw [← z1];exact Heap.get?_push_size _ rfl
  show wpAny _ _ _ _ _ { s with heap:=((s.heap.push (seqObj "list" #[] 0)).update s.heap.objs.size (Obj.mapSeq (·++vs.toArray))).push (seqObj "list" vs.toArray 0) }
  rw [z1]
  have ht2:TupsK (((s.heap.push (seqObj "list" #[] 0)).update s.heap.objs.size (Obj.mapSeq (·++vs.toArray))).push (seqObj "list" vs.toArray 0)) vs kss:=ht.keeps fun b o hb hc=>by
    refine Heap.get?_push_of_some _ ?_
    rw [Heap.get?_update_ne _ _ _ _ (Nat.ne_of_lt (Heap.lt_size hb))]
    exact Heap.get?_push_of_some _ hb
  exact wpAny_bind (wpAny_holding (wpAny_call_entry slot_list_sort ⟨_,z2,rfl⟩ entry_list_sort (list_sort_up z2 ht2 hh hr hz ⟨_,rfl,wpAny_pure ⟨_,rfl,q⟩⟩) (args_list_sort _)))
end
def unKeys:List D→Option (List (List Key))
  | []=>some []
  | .tup xs::r=>(unKey xs).bind fun ks=>(unKeys r).bind fun kss=>some (ks::kss)
  | _=>none
def sortU:D→Option D
  | .lst ds=>(unKeys ds).bind fun kss=>if kss.all headI&&risesK kss then some (.lst ds) else none
  | _=>none
section
variable {X:Cx} {l r:Expr} {fa fb:Fe} {ga gb:Gr} {pos p:Pos}
def KTs (K:Fg) (H:Hp):List V→List (List Key)→Prop
  | [],[]=>True
  | v::vs,ks::kss=>(∃ a,v=.ref a∧SqT K H a (ks.map kV))∧KTs K H vs kss
  | _,_=>False
theorem KTs.of {K:Fg} {Z:Hp}:∀ {ds:List D} {vs:List V} {kss:List (List Key)},unKeys ds=some kss→Reps K Z ds vs→KTs K Z vs kss
  | [],vs,kss,h,r=>by cases h;cases (show vs=[] from r);trivial
  | d::ds,vs,kss,h,r=>by
    obtain ⟨v,rr,e,h1,h2⟩:=r
    subst e
    cases d<;>try cases h
    obtain ⟨ks,e1,h⟩:=Option.bind_eq_some_iff.mp h
    obtain ⟨kss',e2,h⟩:=Option.bind_eq_some_iff.mp h
    cases h
    obtain ⟨a,us,rfl,q,r1⟩:=h1
    cases unKey_rep e1 r1
    exact ⟨⟨a,rfl,q⟩,KTs.of e2 h2⟩
theorem KTs.mono {K:Fg} {H H':Hp} (s:Same H H'):∀ {vs:List V} {kss:List (List Key)},KTs K H vs kss→KTs K H' vs kss
  | [],[],t=>t
  | [],_::_,t=>t.elim
  | _::_,[],t=>t.elim
  | _::_,_::_,⟨⟨a,e,q⟩,t⟩=>⟨⟨a,e,sameT s q⟩,KTs.mono s t⟩
theorem KTs.heap {pins σ H s} (I:Inv X pins σ H s):∀ {vs:List V} {us:List Value} {kss:List (List Key)},KTs X.K H vs kss→Vals vs us→TupsK s.heap us kss
  | [],_,[],t,r=>by cases r;trivial
  | [],_,_::_,t,_=>t.elim
  | _::_,_,[],t,_=>t.elim
  | _::_,_,_::_,⟨⟨a,e,q⟩,t⟩,r=>by
    subst e
    cases r with
    | cons h r=>
      cases (show _=Value.ref a from h)
      obtain ⟨its,rv,⟨o,h1,h2,n',h3⟩,_⟩:=I.tuple q
      exact ⟨⟨a,o,its.toArray,n',rfl,h1,h2,h3,by simpa using KsAre.of rv⟩,KTs.heap I t r⟩
def rSortU (K:Fg):List V→Hp→VK→Prop:=fun xs H Q=>∃ (a:Addr) (vs:List V) (kss:List (List Key)),xs=[.ref a]∧SqL K H a vs∧KTs K H vs kss∧kss.all headI=true∧risesK kss=true∧∀ q,H q=none→Q (.ref q) (upd H q (.lst vs))
theorem call_sortedU:CallR X (.builtin "sorted") (rSortU X.K):=by
  intro pins s σ H xs us Q I rs h
  obtain ⟨a,vs,kss,rfl,hq,ht,hh,hr,q⟩:=h
  obtain ⟨u,rfl,rx⟩:=vals1 rs
  cases rx
  obtain ⟨its,rv,pl,hz⟩:=I.list hq
  obtain ⟨o,ho,hc,n,hd⟩:=pl.isList
  have hl:=rv.length
  refine sortedUp ho (.inl hc) hd (ht.heap I rv) hh hr (by omega) ?_
  obtain ⟨e,he⟩:=sortedAll_at s.heap its its.toArray
  exact ⟨.ref _,_,I.laid (t':=s.toks) (o:=.lst vs) (fun b o z=>sortedAll_old z) (Nat.le_succ _) ⟨hz,its,e,rv,he⟩,rfl,q _ (I.hok.fresh (Nat.le_succ _))⟩
theorem d_sortU {K:Fg}:Does1 K .nw sortU (rSortU K):=fun {Z H x dx d Q} s h e k=>by
  cases dx<;>try cases e
  obtain ⟨kss,h1,h2⟩:=Option.bind_eq_some_iff.mp e
  obtain ⟨hl,rfl⟩:=ifS h2
  rw [Bool.and_eq_true] at hl
  obtain ⟨a,vs,rfl,q,rr⟩:=h.lst s
  exact ⟨a,vs,kss,rfl,q,(KTs.of h1 rr).mono s,hl.1,hl.2,fun p hp=>k _ Z _ (Ex.newL s hp) ⟨p,_,_,rfl,rfl,hp,upd_same,s.free hp,rr⟩⟩
theorem m_sortU (hm:X.mg "sorted"=none) (ha:PD X ga l fa) (hg:Gl X "sorted":=by rfl) (he:starEach [l] X.env=[(false,eval l X.env)]:=by rfl):PD X .nw (.Call (.Name "sorted" p) [l] [] pos) (un1 sortU fa):=
  m_bi1 call_sortedU d_sortU PyProof.Rows.boot_sorted hm ha (by decide) (by decide) hg he
end
end Mi
namespace Mi
open PySem L2
mutual
theorem eqD_refl:∀ (d:D),pl d=true→eqD d d=true
  | .non,_=>by simp [eqD]
  | .bl b,_=>by simp [eqD]
  | .int i,_=>by simp [eqD]
  | .str x,_=>by simp [eqD]
  | .tup ds,h=>by unfold eqD;exact eqDs_refl ds (by unfold pl at h;exact h)
  | .lst ds,h=>by unfold eqD;exact eqDs_refl ds (by unfold pl at h;exact h)
  | .dct _,h=>by unfold pl at h;cases h
  | .st _,h=>by unfold pl at h;cases h
  | .ln _,h=>by unfold pl at h;cases h
theorem eqDs_refl:∀ (ds:List D),pls ds=true→eqDs ds ds=true
  | [],_=>by simp [eqDs]
  | d::ds,h=>by
    unfold pls at h
    rw [Bool.and_eq_true] at h
    unfold eqDs
    rw [eqD_refl d h.1,eqDs_refl ds h.2];rfl
end
theorem plsMap {α:Type} {f:α→D}:∀ (xs:List α),(∀ x∈xs,pl (f x)=true)→pls (xs.map f)=true
  | [],_=>by simp [pls]
  | x::xs,h=>by
    rw [List.map_cons];unfold pls
    rw [h x List.mem_cons_self,plsMap xs fun y hy=>h y (List.mem_cons_of_mem _ hy)];rfl
theorem neSame {f g:Fe} {env:En} {d:D} (h1:f env=some d) (h2:g env=some d) (hd:dep d≤60) (hp:pl d=true):op2 neF f g env=some (.bl false):=
  (ne_d h1 h2 (ok_l hd (by rw [hp];rfl)) (eqD_refl d hp)).trans rfl
theorem setQ_v {i:Nat} {f:Fe} {env:En} {ks:List (Int×Int)} (h:f env=some (.dct ks)):setQ i f env=some (.nx (env.set i (.O (.T ks)))):=by unfold setQ;rw [h];rfl
theorem eqNil_v {f:Fe} {env:En} {xs:List D} (h:f env=some (.lst xs)) (hp:pls xs=true):op2 eqF f (fLst fNil) env=some (.bl xs.isEmpty):=
  eq_d h rfl (ok_r (by unfold dep deps;omega) (by unfold pl;rw [hp];rfl)) (eqD_nil xs)
end Mi
namespace Mi
open PySem PySem.Spec PyProof.Rows L2
theorem zip_fs {α β:Type}:∀ (l:List (α×β)),(l.map (·.1)).zip (l.map (·.2))=l
  | []=>rfl
  | (a,b)::l=>by rw [List.map_cons,List.map_cons,List.zip_cons_cons,zip_fs l]
theorem zip_snd {α β:Type}:∀ {xs:List α} {ys:List β},xs.length=ys.length→(xs.zip ys).map (·.2)=ys
  | [],[],_=>rfl
  | [],_::_,h=>by simp at h
  | _::_,[],h=>by simp at h
  | x::xs,y::ys,h=>by rw [List.zip_cons_cons,List.map_cons,zip_snd (by simpa using h)]
def kx (x:(Int×Int)×Addr):List Key×Addr:=(kk x.1,x.2)
theorem setP_iff {P:Program} {w:World} {a:Addr} {ps:List (Int×Int)} {bs:List Addr} {h:Heap} (hl:bs.length=ps.length):SetP a ps bs h↔St.SetAt (tupleKind (mixKind P w)) a ((ps.zip bs).map kx) h:=by
  have e1:(ps.zip bs).map entI=((ps.zip bs).map kx).map (St.ent (tupleKind (mixKind P w))):=by rw [List.map_map];rfl
  have e2:(((ps.zip bs).map kx).map (·.1)).Nodup↔ps.Nodup:=by
    rw [List.map_map,show ((fun x:List Key×Addr=>x.1) ∘ kx)=kk ∘ (fun x:(Int×Int)×Addr=>x.1) from rfl,← List.map_map,zip_fst hl.symm]
    exact nodup_map fun x y=>kk_inj
  constructor
  · rintro ⟨o,es,ep,t,h1,h2,h3,h4,h5,h6,h7,h8⟩
    exact ⟨o,es,ep,t,h1,h2,h3,⟨by rw [← e1];exact h4,h5,h6,h7⟩,e2.mpr h8⟩
  · rintro ⟨o,es,ep,t,h1,h2,h3,⟨h4,h5,h6,h7⟩,h8⟩
    exact ⟨o,es,ep,t,h1,h2,h3,by rw [e1];exact h4,h5,h6,h7,e2.mp h8⟩
theorem setP_stays (a:Addr) (ps:List (Int×Int)) (bs:List Addr):∀ h1 h2:Heap,SetP a ps bs h1→(∀ o,h1.get? a=some o→h2.get? a=some o)→SetP a ps bs h2:=fun h1 h2 ⟨o,es,ep,t,e,r⟩ k=>⟨o,es,ep,t,k o e,r⟩
def ddP (ps:List (Int×Int)):List (Int×Int):=ps.foldl putP []
def addP (xs:List ((Int×Int)×Addr)) (x:(Int×Int)×Addr):List ((Int×Int)×Addr):=if x.1∈xs.map (·.1) then xs else xs++[x]
theorem addP_kx (xs:List ((Int×Int)×Addr)) (x:(Int×Int)×Addr):(addP xs x).map kx=St.addK (xs.map kx) (kx x):=by
  unfold addP St.addK
  have e:(kx x).1∈(xs.map kx).map (·.1)↔x.1∈xs.map (·.1):=by
    rw [List.map_map,List.mem_map,List.mem_map]
    constructor
    · rintro ⟨y,hy,e⟩;exact ⟨y,hy,kk_inj e⟩
    · rintro ⟨y,hy,e⟩;exact ⟨y,hy,by show kk y.1=kk x.1;rw [e]⟩
  by_cases h:x.1∈xs.map (·.1)
  · rw [if_pos h,if_pos (e.mpr h)]
  · rw [if_neg h,if_neg (fun z=>h (e.mp z)),List.map_append];rfl
theorem addP_fold:∀ (l xs:List ((Int×Int)×Addr)),(l.foldl addP xs).map kx=(l.map kx).foldl St.addK (xs.map kx)
  | [],xs=>rfl
  | x::l,xs=>by rw [List.foldl_cons,addP_fold l,addP_kx];rfl
theorem addP_fst:∀ (l xs:List ((Int×Int)×Addr)),(l.foldl addP xs).map (·.1)=(l.map (·.1)).foldl putP (xs.map (·.1))
  | [],xs=>rfl
  | x::l,xs=>by
    rw [List.foldl_cons,addP_fst l,List.map_cons,List.foldl_cons]
    congr 1
    unfold addP putP
    by_cases h:x.1∈xs.map (·.1)
    · rw [if_pos h,if_pos h]
    · rw [if_neg h,if_neg h,List.map_append];rfl
theorem addP_sub:∀ {l xs:List ((Int×Int)×Addr)} {y:(Int×Int)×Addr},y∈l.foldl addP xs→y∈xs∨y∈l
  | [],xs,y,h=>.inl h
  | x::l,xs,y,h=>by
    rcases addP_sub (l:=l) h with h | h
    · unfold addP at h
      split at h
      · exact .inl h
      · rcases List.mem_append.mp h with h | h
        · exact .inl h
        · exact .inr (by rw [List.mem_singleton.mp h];exact List.mem_cons_self)
    · exact .inr (List.mem_cons_of_mem _ h)
theorem PrAt.of_zip {K:Fg} {H:Hp} (l:List ((Int×Int)×Addr)) (h:∀ x∈l,SqT K H x.2 [.int x.1.1,.int x.1.2]):PrAt K H (l.map (·.1)) (l.map (·.2)):=by
  refine ⟨by simp,fun i p b h1 h2=>?_⟩
  rw [List.getElem?_map] at h1 h2
  obtain ⟨x,hx,rfl⟩:=Option.map_eq_some_iff.mp h1
  rw [hx] at h2
  cases h2
  exact h x (List.mem_of_getElem? hx)
section
variable {X:Cx} {l r:Expr} {fa fb:Fe} {ga gb:Gr} {pos p:Pos} {k:Nat}
theorem vals_ref:∀ {bs:List Addr} {us:List Value},Vals (bs.map V.ref) us→us=bs.map Value.ref
  | [],us,h=>by cases h;rfl
  | b::bs,us,h=>by
    cases h with
    | cons h1 h2=>cases (show _=Value.ref b from h1);rw [vals_ref h2];rfl
def unPr:List D→Option (List (Int×Int))
  | []=>some []
  | .tup [.int a,.int b]::r=>(unPr r).bind fun ps=>some ((a,b)::ps)
  | _=>none
theorem unPr_rep {K:Fg} {Z:Hp}:∀ {ds:List D} {vs:List V} {ps:List (Int×Int)},unPr ds=some ps→Reps K Z ds vs→∃ bs,vs=bs.map V.ref∧PrAt K Z ps bs
  | [],vs,ps,h,r=>by cases h;cases (show vs=[] from r);exact ⟨[],rfl,rfl,fun i p b h=>by simp at h⟩
  | d::ds,vs,ps,h,r=>by
    unfold unPr at h
    split at h
    · rename_i heq;exact absurd heq (by simp)
    · rename_i a b r' e
      cases e
      obtain ⟨ps',e1,h⟩:=Option.bind_eq_some_iff.mp h
      cases h
      obtain ⟨v,rr,e,h1,h2⟩:=r
      subst e
      obtain ⟨c,us,rfl,q,r1⟩:=h1
      cases Reps.intsV (bs:=[a,b]) r1
      obtain ⟨bs,rfl,hp⟩:=unPr_rep e1 h2
      refine ⟨c::bs,rfl,by simp [hp.1],fun i p b' h1 h2=>?_⟩
      cases i with
      | zero=>simp at h1 h2;subst h1;subst h2;exact q
      | succ i=>exact hp.2 i p b' (by simpa using h1) (by simpa using h2)
    · cases h
def setD:D→Option D
  | .lst ds=>(unPr ds).bind fun ps=>if ps.length≤4900 then some (.st (ddP ps)) else none
  | _=>none
theorem d_set {K:Fg}:Does1 K .cl setD (fun xs H Q=>∃ (a:Addr) (ps:List (Int×Int)) (bs:List Addr),xs=[.ref a]∧SqL K H a (bs.map V.ref)∧PrAt K H ps bs∧ps.length≤4900∧
    ∀ q,H q=none→Q (.ref q) (upd H q (.ext (SetP q (ddP ps) ((((ps.zip bs).foldl addP []).map (·.2))))))):=fun {Z H x dx d Q} s h e k=>by
  cases dx<;>try cases e
  obtain ⟨ps,h1,h2⟩:=Option.bind_eq_some_iff.mp e
  obtain ⟨hl,rfl⟩:=ifS h2
  obtain ⟨a,vs,rfl,q,rr⟩:=h.lst s
  obtain ⟨bs,rfl,hp⟩:=unPr_rep h1 rr
  refine ⟨a,ps,bs,rfl,q,hp.mono s,hl,fun c hc=>?_⟩
  have hpr:PrAt K Z (ddP ps) (((ps.zip bs).foldl addP []).map (·.2)):=by
    have:=PrAt.of_zip (K:=K) (H:=Z) ((ps.zip bs).foldl addP []) fun x hx=>by
      rcases addP_sub hx with h | h
      · cases h
      · exact hp.zip x h
    rw [addP_fst,zip_fst hp.1.symm] at this
    exact this
  have s1:Same Z (upd Z c (.ext (SetP c (ddP ps) (((ps.zip bs).foldl addP []).map (·.2))))):=smUpd (s.free hc)
  exact k _ _ _ (Ex.new s hc) ⟨c,_,rfl,hpr.1,upd_same,fun i p b g1 g2=>sameT s1 (hpr.2 i p b g1 g2)⟩
theorem call_set' (hc:X.calm=true) (hu:X.A.units+66<cLine):CallR X (.type "set") (fun xs H Q=>∃ (a:Addr) (ps:List (Int×Int)) (bs:List Addr),xs=[.ref a]∧SqL X.K H a (bs.map V.ref)∧PrAt X.K H ps bs∧ps.length≤4900∧
    ∀ q,H q=none→Q (.ref q) (upd H q (.ext (SetP q (ddP ps) ((((ps.zip bs).foldl addP []).map (·.2))))))):=by
  intro pins s σ H xs us Q I rs h
  obtain ⟨a,ps,bs,rfl,hq,hp,hl,q⟩:=h
  obtain ⟨u,rfl,rx⟩:=vals1 rs
  cases rx
  obtain ⟨its,rv,pl,hz⟩:=I.list hq
  have hits:=vals_ref rv
  subst hits
  refine St.call_set_tups (I.ok.hd hc) (by omega) pl.isList (ks:=(ps.zip bs).map kx) ?_ (fun x hx=>?_) (by simp;omega) fun h' tk hS hold=>?_
  · rw [List.map_map]
    show bs.map Value.ref=(ps.zip bs).map (Value.ref ∘ (·.2))
    rw [← List.map_map,zip_snd hp.1.symm]
  · obtain ⟨y,hy,rfl⟩:=List.mem_map.mp hx
    exact key_sq I (hp.zip y hy)
  · have hS2:St.SetAt (tupleKind (mixKind X.prog X.w)) s.heap.objs.size (((ps.zip bs).foldl addP []).map kx) h':=by
      rw [addP_fold];exact hS
    have hfst:((ps.zip bs).foldl addP []).map (·.1)=ddP ps:=by rw [addP_fst,zip_fst hp.1.symm];rfl
    have hS3:SetP s.heap.objs.size (((ps.zip bs).foldl addP []).map (·.1)) (((ps.zip bs).foldl addP []).map (·.2)) h':=by
      rw [setP_iff (P:=X.prog) (w:=X.w) (by simp),zip_fs];exact hS2
    rw [hfst] at hS3
    have hfr:=I.hok.fresh (Nat.le_refl s.heap.objs.size)
    refine ⟨.ref _,_,I.laid (t':=tk) (o:=.ext (SetP s.heap.objs.size (ddP ps) (((ps.zip bs).foldl addP []).map (·.2)))) (fun b o e=>hold b o (Heap.lt_size e) e) (Nat.le_refl _) ⟨hS3,?_,setP_stays _ _ _⟩,rfl,q _ hfr⟩
    obtain ⟨o,_,_,_,e,_⟩:=hS3
    exact ⟨o,e⟩
theorem boot_set':bootBuiltins "set"=some (.type "set"):=by first | rfl | decide +kernel | kernel_rfl
theorem m_setc (hm:X.mg "set"=none) (hc:X.calm=true) (hr:Room k X.A) (ha:PD X ga l fa) (hg:Gl X "set":=by rfl) (he:starEach [l] X.env=[(false,eval l X.env)]:=by rfl):PD X .cl (.Call (.Name "set" p) [l] [] pos) (un1 setD fa):=
  m_ty1 (call_set' hc (units66 hr)) d_set boot_set' hm ha (by decide) (by decide) hg he
theorem Gd.st {K:Fg} {Z' H H':Hp} {g:Gr} {v:V} {ps:List (Int×Int)} (s:Same Z' H') (h:Gd K Z' H H' g (.st ps) v):∃ a bs,v=.ref a∧H' a=some (.ext (SetP a ps bs))∧PrAt K H' ps bs:=by
  rcases (h.pk (H3:=H)) with ⟨a,bs,e,l,q,r⟩ | ⟨_,_,_,_,e,_⟩ | ⟨_,_,_,e,_⟩
  · exact ⟨a,bs,e,s _ _ q,l,fun i p b h1 h2=>sameT s (r i p b h1 h2)⟩
  · cases e
  · cases e
def inS (neg:Bool):D→D→Option D
  | .tup [.int a,.int b],.st ps=>some (.bl (if neg then !decide ((a,b)∈ps) else decide ((a,b)∈ps)))
  | _,_=>none
def rInS (K:Fg) (neg:Bool):R2:=fun x y H Q=>∃ (b c:Addr) (ps:List (Int×Int)) (bs:List Addr) (m n:Int),x=.ref b∧SqT K H b [.int m,.int n]∧y=.ref c∧H c=some (.ext (SetP c ps bs))∧PrAt K H ps bs∧Q (.bl (if neg then !decide ((m,n)∈ps) else decide ((m,n)∈ps))) H
theorem mem_kx {ps:List (Int×Int)} {bs:List Addr} (hl:bs.length=ps.length) (m n:Int):(kk (m,n)∈((ps.zip bs).map kx).map (·.1))↔(m,n)∈ps:=by
  rw [List.map_map,show ((fun x:List Key×Addr=>x.1) ∘ kx)=kk ∘ (fun x:(Int×Int)×Addr=>x.1) from rfl,← List.map_map,zip_fst hl.symm,List.mem_map]
  constructor
  · rintro ⟨q,hq,e⟩;rw [← kk_inj e];exact hq
  · intro h;exact ⟨_,h,rfl⟩
theorem op_inS (hu:X.A.units+1<cLine) (neg:Bool):OpR X (compareOp (if neg then .NotIn else .In)) (rInS X.K neg):=by
  intro pins s σ H x y v u Q I rx ry h
  obtain ⟨b,c,ps,bs,m,n,rfl,hq,rfl,hc,hp,q⟩:=h
  cases rx
  cases ry
  have hS:SetP c ps bs s.heap:=(show ObjOk X.prog X.w H s.heap c (.ext (SetP c ps bs)) from I.hok c _ hc).1
  rw [setP_iff (P:=X.prog) (w:=X.w) hp.1] at hS
  have his:∀ x∈(ps.zip bs).map kx,(tupleKind (mixKind X.prog X.w)).is s.heap x.1 x.2:=fun x hx=>by
    obtain ⟨y,hy,rfl⟩:=List.mem_map.mp hx
    exact key_sq I (hp.zip y hy)
  have hd:∀ (inst:Decidable (kk (m,n)∈((ps.zip bs).map kx).map (·.1))),@decide _ inst=decide ((m,n)∈ps):=fun inst=>decide_eq_decide.mpr (mem_kx hp.1 m n)
  cases neg with
  | false=>
    refine St.in_ok St.sk_tuple (tupleKind_room_in1 hu) hS his (key_sq I hq) fun tk=>?_
    rw [hd]
    exact ⟨.bl _,H,I.tok _,rfl,q⟩
  | true=>
    refine St.notIn_ok St.sk_tuple (tupleKind_room_in1 hu) hS his (key_sq I hq) fun tk=>?_
    rw [hd]
    exact ⟨.bl _,H,I.tok _,rfl,q⟩
theorem d_inS {K:Fg} {neg:Bool}:Does K .cl (inS neg) (rInS K neg):=fun {Z H x y dx dy d Q} s h1 h2 e kq=>by
  unfold inS at e
  split at e
  · rename_i m n ps
    cases e
    obtain ⟨b,vs,rfl,q,rr⟩:=h1.tup s
    cases Reps.intsV (bs:=[m,n]) rr
    obtain ⟨c,bs,rfl,qc,hp⟩:=h2.st s
    exact ⟨b,c,ps,bs,m,n,rfl,q,rfl,qc,hp,kq _ Z H (Ex.refl s) rfl⟩
  · cases e
theorem m_inS (hr:Room k X.A) (ha:PD X ga l fa) (hb:PD X gb r fb) (hm:behindInMarks .In r=false:=by rfl):PD X .cl (.Compare l [.In] [r] pos) (op2 (inS false) fa fb):=m_cmp (op_inS (hu_of hr) false) d_inS ha hb hm
def lenS:D→Option D
  | .st ps=>some (.int ps.length)
  | _=>none
theorem call_lenS:CallR X (.builtin "len") (fun xs H Q=>∃ (a:Addr) (ps:List (Int×Int)) (bs:List Addr),xs=[.ref a]∧H a=some (.ext (SetP a ps bs))∧bs.length=ps.length∧Q (.int ps.length) H):=by
  intro pins s σ H xs us Q I rs h
  obtain ⟨a,ps,bs,rfl,hc,hl,q⟩:=h
  obtain ⟨u,rfl,rx⟩:=vals1 rs
  cases rx
  have hS:SetP a ps bs s.heap:=(show ObjOk X.prog X.w H s.heap a (.ext (SetP a ps bs)) from I.hok a _ hc).1
  rw [setP_iff (P:=X.prog) (w:=X.w) hl] at hS
  have hln:((ps.zip bs).map kx).length=ps.length:=by simp [hl]
  refine St.len_ok hS ?_ fun t tk=>?_
  · obtain ⟨o,es,ep,t,_,_,_,T,_⟩:=id hS
    have h1:=T.size
    have h2:=T.psize
    have h3:=T.nf
    have h4:=(St.mask_le T.msk).2.1
    have:((ps.zip bs).map kx).length≤5000:=by omega
    have e:((2:Int) ^ 63)=9223372036854775808:=by decide
    rw [e];omega
  · rw [hln]
    exact ⟨.int _,H,I.tok _,⟨_,rfl⟩,q⟩
theorem d_lenS {K:Fg}:Does1 K .cl lenS (fun xs H Q=>∃ (a:Addr) (ps:List (Int×Int)) (bs:List Addr),xs=[.ref a]∧H a=some (.ext (SetP a ps bs))∧bs.length=ps.length∧Q (.int ps.length) H):=fun {Z H x dx d Q} s h e k=>by
  cases dx<;>cases e
  obtain ⟨a,bs,rfl,q,hp⟩:=h.st s
  exact ⟨a,_,bs,rfl,q,hp.1,k _ Z H (Ex.refl s) rfl⟩
theorem m_lenS (hm:X.mg "len"=none) (ha:PD X ga l fa) (hg:Gl X "len":=by rfl) (he:starEach [l] X.env=[(false,eval l X.env)]:=by rfl):PD X .cl (.Call (.Name "len" p) [l] [] pos) (un1 lenS fa):=
  m_bi1 call_lenS d_lenS PySem.boot_len hm ha (by decide) (by decide) hg he
end
end Mi
namespace Mi
open PySem PySem.Spec PyProof.Rows L2
section
variable {prog:Program} {w:World} {A:Around} {E:Value→Shared→Prop} {s:Shared}
theorem len_dict_at {d:Addr} {o:Obj} {es:Array DictEntry} {ep:Nat} {Q:Value→Shared→Prop} (hd:(d==sysModules)=false) (ho:s.heap.get? d=some o) (hc:o.ExactDict) (hdat:o.data=.dict es ep) (hfit:(es.size:Int)<2 ^ 63)
    (h:∀ t tk,Q (.int es.size t) { s with toks:=tk }):wpAny (model prog w) A (call (.builtin "len") [.ref d]) Q E s:=by
  refine Calls.call_function_entry kind_len plain_len entry_len (args_len1 _) ?_
  have hT:s.TypeIs (.ref d) "dict":=⟨o,ho,hc.1⟩
  unfold Builtin.«len»
  refine wpAny_bind (m:=oneArg "len" _) (wpAny_pure ?_)
  refine wpAny_bind (m:=callSpecial? (.ref d) (Str.ofString "__len__")) (wpAny_callSpecial?_slot (name:=Str.ofString "__len__") hT PySem.F.slot_dict_len
    (wpAny_call_entry PySem.F.slot_dict_len hT PySem.F.entry_dict_len ?_ (PySem.F.args_dict_len_1 _)))
  show wpAny _ _ (dictSize d >>= _) _ _ s
  unfold dictSize
  refine wpAny_bind (wpAny_bind (wpAny_dictEntries ho hdat (wpAny_pure ?_)))
  show wpAny _ _ (Builtin.Dict.pendingCount d >>= _) _ _ s
  refine wpAny_bind (wpAny_pendingCount_other hd ?_)
  rw [show ((es.size:Int)+((0:Nat):Int))=(es.size:Int) by omega]
  unfold retInt
  refine wpAny_bind (wpAny_mkInt (wpAny_pure ⟨_,rfl,?_⟩))
  refine wpAny_bind (wpAny_holding (wpAny_pure ?_))
  refine wpAny_bind (wpAny_letGo ?_)
  show wpAny _ _ (if ((es.size:Nat):Int)<0 then _ else _) _ _ _
  rw [if_neg (by omega)]
  show wpAny _ _ (if ((es.size:Nat):Int)≥2 ^ 63 then _ else _) _ _ _
  rw [if_neg (by omega)]
  exact wpAny_bind (wpAny_mkInt (wpAny_pure ⟨_,rfl,h _ _⟩))
end
theorem p63:((2:Int) ^ 63)=9223372036854775808:=by decide
section
variable {X:Cx} {l r:Expr} {fa fb:Fe} {ga gb:Gr} {pos p:Pos} {k:Nat}
def lenQ':D→Option D
  | .dct ks=>some (.int ks.length)
  | _=>none
theorem call_lenQ:CallR X (.builtin "len") (fun xs H Q=>∃ (a:Addr) (ks:List (Int×Int)) (bs:List Addr),xs=[.ref a]∧H a=some (.ext (DicP a ks bs))∧bs.length=ks.length∧Q (.int ks.length) H):=by
  intro pins s σ H xs us Q I rs h
  obtain ⟨a,ks,bs,rfl,hc,hl,q⟩:=h
  obtain ⟨u,rfl,rx⟩:=vals1 rs
  cases rx
  obtain ⟨o,es,ep,h1,h2,h3,h4,h5,h6,h7⟩:=(show ObjOk X.prog X.w H s.heap a (.ext (DicP a ks bs)) from I.hok a _ hc).1
  have hsz:es.size=ks.length:=by rw [← Array.length_toList,h4,List.length_map,List.length_zip,hl,Nat.min_self]
  refine len_dict_at h6 h1 h2 h3 (by rw [p63,hsz];omega) fun t tk=>?_
  rw [hsz]
  exact ⟨.int _,H,I.tok _,⟨_,rfl⟩,q⟩
theorem d_lenQ {K:Fg}:Does1 K .cl lenQ' (fun xs H Q=>∃ (a:Addr) (ks:List (Int×Int)) (bs:List Addr),xs=[.ref a]∧H a=some (.ext (DicP a ks bs))∧bs.length=ks.length∧Q (.int ks.length) H):=fun {Z H x dx d Q} s h e k=>by
  cases dx<;>cases e
  obtain ⟨a,rfl,bs,q,hp⟩:=h.dct s
  exact ⟨a,_,bs,rfl,q,hp.1,k _ Z H (Ex.refl s) rfl⟩
theorem m_lenQ (hm:X.mg "len"=none) (ha:PD X ga l fa) (hg:Gl X "len":=by rfl) (he:starEach [l] X.env=[(false,eval l X.env)]:=by rfl):PD X .cl (.Call (.Name "len" p) [l] [] pos) (un1 lenQ' fa):=
  m_bi1 call_lenQ d_lenQ PySem.boot_len hm ha (by decide) (by decide) hg he
def putPB (st:List (Int×Int)×List Addr) (x:(Int×Int)×Addr):List (Int×Int)×List Addr:=(putP st.1 x.1,putB st.1 st.2 x.1 x.2)
theorem putPB_fst:∀ (l:List ((Int×Int)×Addr)) (st:List (Int×Int)×List Addr),(l.foldl putPB st).1=(l.map (·.1)).foldl putP st.1
  | [],st=>rfl
  | x::l,st=>by rw [List.foldl_cons,putPB_fst l];rfl
theorem putPB_len:∀ (l:List ((Int×Int)×Addr)) (st:List (Int×Int)×List Addr),st.2.length=st.1.length→(l.foldl putPB st).2.length=(l.foldl putPB st).1.length
  | [],st,h=>h
  | x::l,st,h=>putPB_len l _ (putB_len h x.1 x.2)
theorem putPB_kd:∀ (l:List ((Int×Int)×Addr)) (st:List (Int×Int)×List Addr),st.2.length=st.1.length→(l.map kx).foldl St.stT ((st.1.zip st.2).map kd)=(((l.foldl putPB st).1).zip ((l.foldl putPB st).2)).map kd
  | [],st,h=>rfl
  | x::l,st,h=>by
    rw [List.map_cons,List.foldl_cons,show St.stT ((st.1.zip st.2).map kd) (kx x)=(((putPB st x).1).zip ((putPB st x).2)).map kd from stored_kd h x.1 x.2]
    exact putPB_kd l (putPB st x) (putB_len h x.1 x.2)
theorem putPB_pr {K:Fg} {H:Hp}:∀ (l:List ((Int×Int)×Addr)) (st:List (Int×Int)×List Addr),PrAt K H st.1 st.2→(∀ x∈l,SqT K H x.2 [.int x.1.1,.int x.1.2])→PrAt K H (l.foldl putPB st).1 (l.foldl putPB st).2
  | [],st,h,_=>h
  | x::l,st,h,hl=>putPB_pr l _ (h.put (hl x List.mem_cons_self)) fun y hy=>hl y (List.mem_cons_of_mem _ hy)
theorem putAll_len:∀ (l xs:List (Int×Int)),(l.foldl putP xs).length≤xs.length+l.length
  | [],xs=>by simp
  | x::l,xs=>by
    rw [List.foldl_cons]
    have h1:=putAll_len l (putP xs x)
    have h2:=putP_len xs x
    simp only [List.length_cons];omega
def rDict (K:Fg):List V→Hp→VK→Prop:=fun xs H Q=>∃ (a:Addr) (ps:List (Int×Int)) (bs cs:List Addr),xs=[.ref a]∧SqL K H a (cs.map V.ref)∧PrAt K H ps bs∧cs.length=ps.length∧(∀ (i:Nat) b c,bs[i]?=some b→cs[i]?=some c→SqT K H c [.ref b,.bl true])∧ps.length≤1000000∧
  ∀ q,H q=none→Q (.ref q) (upd H q (.ext (DicP q ((ps.zip bs).foldl putPB ([],[])).1 ((ps.zip bs).foldl putPB ([],[])).2)))
theorem key_old {P:Program} {w:World} {h:Heap} (h':Heap) (k:List Key) (b:Addr) (x:(tupleKind (mixKind P w)).is h k b) (old:∀ c o,c<h.objs.size→h.get? c=some o→h'.get? c=some o):(tupleKind (mixKind P w)).is h' k b:=
  St.key_keep x fun o e=>old b o (Heap.lt_size e) e
theorem call_dictP (hc:X.calm=true) (hu:X.A.units+66<cLine):CallR X (.type "dict") (rDict X.K):=by
  intro pins s σ H xs us Q I rs h
  obtain ⟨a,ps,bs,cs,rfl,hq,hp,hcl,hcs,hl,q⟩:=h
  obtain ⟨u,rfl,rx⟩:=vals1 rs
  cases rx
  obtain ⟨its,rv,⟨ol,nl,e1,e2,e3,e4⟩,hz⟩:=I.list hq
  have hits:=vals_ref rv
  subst hits
  have hbl:=hp.1
  refine St.call_dict_pairs (knd:=tupleKind (mixKind X.prog X.w)) (I.ok.hd hc) (fun B hB=>(show B.units<cLine by omega)) key_old e1 e2 e3 e4 (ks:=(ps.zip bs).map kx) (cs:=cs) (by simp [hbl,hcl]) (by simp) (fun x hx=>?_) (fun i x c g1 g2=>?_) (by simp;omega) fun h' tk hS hold=>?_
  · obtain ⟨y,hy,rfl⟩:=List.mem_map.mp hx
    exact key_sq I (hp.zip y hy)
  · rw [List.getElem?_map] at g1
    obtain ⟨y,hy,rfl⟩:=Option.map_eq_some_iff.mp g1
    obtain ⟨_,hy2⟩:=List.getElem?_zip_eq_some.mp hy
    have hsq:=hcs i y.2 c hy2 g2
    obtain ⟨its,rv,⟨o,h1,h2,n',h3⟩,_⟩:=I.tuple hsq
    obtain ⟨u,w',rfl,ru,rw'⟩:=rv.two
    cases (show u=Value.ref y.2 from ru)
    cases (show w'=Value.bool true from rw')
    exact ⟨o,n',h1,h2,h3⟩
  · have e5:=putPB_kd (ps.zip bs) ([],[]) rfl
    have e6:((ps.zip bs).map kx).foldl St.stT []=(((ps.zip bs).foldl putPB ([],[])).1.zip ((ps.zip bs).foldl putPB ([],[])).2).map kd:=e5
    rw [e6] at hS
    have hfr:=I.hok.fresh (Nat.le_refl s.heap.objs.size)
    have hln:((ps.zip bs).foldl putPB ([],[])).1.length≤16000000:=by
      rw [putPB_fst]
      have:=putAll_len ((ps.zip bs).map (·.1)) []
      rw [zip_fst hbl.symm] at this ⊢
      simp only [List.length_nil] at this
      show (ps.foldl putP []).length≤16000000
      omega
    have hnew:DicP s.heap.objs.size ((ps.zip bs).foldl putPB ([],[])).1 ((ps.zip bs).foldl putPB ([],[])).2 h':=by
      obtain ⟨o,es,ep,g1,g2,g3,g4,g5⟩:=hS
      refine ⟨o,es,ep,g1,g2,g3,by rw [g4,List.map_map];rfl,?_,by have:=I.big;simpa using (Nat.ne_of_gt this),hln⟩
      rw [kd_fst (putPB_len _ _ rfl)] at g5
      exact (nodup_map fun x y=>kk_inj).mp g5
    refine ⟨.ref _,_,I.laid (t':=tk) (o:=.ext (DicP s.heap.objs.size ((ps.zip bs).foldl putPB ([],[])).1 ((ps.zip bs).foldl putPB ([],[])).2)) (fun b o e=>hold b o (Heap.lt_size e) e) (Nat.le_refl _) ⟨hnew,?_,dicP_stays _ _ _⟩,rfl,q _ hfr⟩
    obtain ⟨o,_,_,e,_⟩:=hnew
    exact ⟨o,e⟩
def unPT:List D→Option (List (Int×Int))
  | []=>some []
  | .tup [.tup [.int a,.int b],.bl true]::r=>(unPT r).bind fun ps=>some ((a,b)::ps)
  | _=>none
theorem unPT_rep {K:Fg} {Z:Hp}:∀ {ds:List D} {vs:List V} {ps:List (Int×Int)},unPT ds=some ps→Reps K Z ds vs→∃ (bs cs:List Addr),vs=cs.map V.ref∧PrAt K Z ps bs∧cs.length=ps.length∧∀ (i:Nat) b c,bs[i]?=some b→cs[i]?=some c→SqT K Z c [.ref b,.bl true]
  | [],vs,ps,h,r=>by cases h;cases (show vs=[] from r);exact ⟨[],[],rfl,⟨rfl,fun i p b h=>by simp at h⟩,rfl,fun i b c h=>by simp at h⟩
  | d::ds,vs,ps,h,r=>by
    unfold unPT at h
    split at h
    · rename_i heq;exact absurd heq (by simp)
    · rename_i a b r' e
      cases e
      obtain ⟨ps',e1,h⟩:=Option.bind_eq_some_iff.mp h
      cases h
      obtain ⟨v,rr,e,h1,h2⟩:=r
      subst e
      obtain ⟨c,us,rfl,q,v1,u1,rfl,r1,v2,u2,rfl,r2,r3⟩:=h1
      cases (show u2=[] from r3)
      cases (show v2=V.bl true from r2)
      obtain ⟨b',us',rfl,q',r1'⟩:=r1
      cases Reps.intsV (bs:=[a,b]) r1'
      obtain ⟨bs,cs,rfl,hp,hl,hc⟩:=unPT_rep e1 h2
      refine ⟨b'::bs,c::cs,rfl,⟨by simp [hp.1],fun i p x h1 h2=>?_⟩,by simp [hl],fun i x y h1 h2=>?_⟩
      · cases i with
        | zero=>simp at h1 h2;subst h1;subst h2;exact q'
        | succ i=>exact hp.2 i p x (by simpa using h1) (by simpa using h2)
      · cases i with
        | zero=>simp at h1 h2;subst h1;subst h2;exact q
        | succ i=>exact hc i x y (by simpa using h1) (by simpa using h2)
    · cases h
def dictQ:D→Option D
  | .lst ds=>(unPT ds).bind fun ps=>if ps.length≤1000000 then some (.dct (ddP ps)) else none
  | _=>none
theorem d_dictP {K:Fg}:Does1 K .cl dictQ (rDict K):=fun {Z H x dx d Q} s h e k=>by
  cases dx<;>try cases e
  obtain ⟨ps,h1,h2⟩:=Option.bind_eq_some_iff.mp e
  obtain ⟨hl,rfl⟩:=ifS h2
  obtain ⟨a,vs,rfl,q,rr⟩:=h.lst s
  obtain ⟨bs,cs,rfl,hp,hcl,hc⟩:=unPT_rep h1 rr
  refine ⟨a,ps,bs,cs,rfl,q,hp.mono s,hcl,fun i b c g1 g2=>sameT s (hc i b c g1 g2),hl,fun n hn=>?_⟩
  have hpr:=putPB_pr (K:=K) (H:=Z) (ps.zip bs) ([],[]) ⟨rfl,fun i p b h=>by simp at h⟩ hp.zip
  have hfst:((ps.zip bs).foldl putPB ([],[])).1=ddP ps:=by rw [putPB_fst,zip_fst hp.1.symm];rfl
  rw [hfst] at hpr ⊢
  have s1:Same Z (upd Z n (.ext (DicP n (ddP ps) ((ps.zip bs).foldl putPB ([],[])).2))):=smUpd (s.free hn)
  exact k _ _ _ (Ex.new s hn) ⟨n,rfl,_,upd_same,hpr.mono s1⟩
theorem boot_dict':bootBuiltins "dict"=some (.type "dict"):=by first | rfl | decide +kernel | kernel_rfl
theorem m_dictQ (hm:X.mg "dict"=none) (hc:X.calm=true) (hr:Room k X.A) (ha:PD X ga l fa) (hg:Gl X "dict":=by rfl) (he:starEach [l] X.env=[(false,eval l X.env)]:=by rfl):PD X .cl (.Call (.Name "dict" p) [l] [] pos) (un1 dictQ fa):=
  m_ty1 (call_dictP hc (units66 hr)) d_dictP boot_dict' hm ha (by decide) (by decide) hg he
end
theorem put_mem' (ks:List (Int×Int)) (p q:Int×Int):q∈putP ks p↔q∈ks∨q=p:=by
  unfold putP
  split
  · rename_i h
    exact ⟨fun z=>.inl z,fun z=>z.elim id fun e=>e▸h⟩
  · simp
theorem putAll_mem:∀ (l xs:List (Int×Int)) (q:Int×Int),q∈l.foldl putP xs↔q∈xs∨q∈l
  | [],xs,q=>by simp
  | x::l,xs,q=>by rw [List.foldl_cons,putAll_mem l,put_mem',List.mem_cons,or_assoc]
theorem ddP_mem (l:List (Int×Int)) (q:Int×Int):q∈ddP l↔q∈l:=by unfold ddP;rw [putAll_mem];simp
theorem putAll_new:∀ (l xs:List (Int×Int)),(xs++l).Nodup→l.foldl putP xs=xs++l
  | [],xs,_=>by simp
  | x::l,xs,h=>by
    have hx:x∉xs:=fun hm=>by
      rw [List.nodup_append] at h
      exact h.2.2 x hm x List.mem_cons_self rfl
    rw [List.foldl_cons,show putP xs x=xs++[x] by unfold putP;rw [if_neg hx],putAll_new l (xs++[x]) (by simpa using h)]
    simp
theorem ddP_nodup {l:List (Int×Int)} (h:l.Nodup):ddP l=l:=by unfold ddP;rw [putAll_new l [] (by simpa using h)];rfl
theorem putAll_le:∀ (l xs:List (Int×Int)),(l.foldl putP xs).length≤xs.length+l.length∧((l.foldl putP xs).length=xs.length+l.length→xs.Nodup→(xs++l).Nodup)
  | [],xs=>by simp
  | x::l,xs=>by
    rw [List.foldl_cons]
    obtain ⟨h1,h2⟩:=putAll_le l (putP xs x)
    have h3:=putP_len xs x
    refine ⟨by simp only [List.length_cons];omega,fun e hn=>?_⟩
    simp only [List.length_cons] at e
    have e1:(putP xs x).length=xs.length+1:=by omega
    have hx:x∉xs:=fun hm=>by
      have:putP xs x=xs:=by unfold putP;rw [if_pos hm]
      rw [this] at e1;omega
    have e2:putP xs x=xs++[x]:=by unfold putP;rw [if_neg hx]
    rw [e2] at h2
    have:=h2 (by rw [← e2];omega) (by
      refine List.nodup_append.mpr ⟨hn,by simp,fun a ha b hb=>?_⟩
      rw [List.mem_singleton] at hb
      subst hb
      rintro rfl
      exact hx ha)
    simpa using this
theorem ddP_len {l:List (Int×Int)}:(ddP l).length≤l.length∧((ddP l).length=l.length↔l.Nodup):=by
  obtain ⟨h1,h2⟩:=putAll_le l []
  have e0:(ddP l).length=(l.foldl putP []).length:=rfl
  rw [List.length_nil,Nat.zero_add] at h1 h2
  refine ⟨by rw [e0];exact h1,fun e=>by have:=h2 (by rw [← e0];exact e) List.nodup_nil;simpa using this,fun h=>by rw [ddP_nodup h]⟩
theorem unPr_map {f:Int×Int→D} (hf:∀ p,f p=.tup [.int p.1,.int p.2]):∀ (ps:List (Int×Int)),unPr (ps.map f)=some ps
  | []=>rfl
  | p::ps=>by rw [List.map_cons,hf];show (unPr (ps.map f)).bind _=_;rw [unPr_map hf ps];rfl
theorem unPT_map {f:Int×Int→D} (hf:∀ p,f p=.tup [.tup [.int p.1,.int p.2],.bl true]):∀ (ps:List (Int×Int)),unPT (ps.map f)=some ps
  | []=>rfl
  | p::ps=>by rw [List.map_cons,hf];show (unPT (ps.map f)).bind _=_;rw [unPT_map hf ps];rfl
theorem set_v' {f:Fe} {env:En} {ds:List D} {ps:List (Int×Int)} (h:f env=some (.lst ds)) (h2:unPr ds=some ps) (hl:ps.length≤4900):un1 setD f env=some (.st (ddP ps)):=by
  rw [un1_v h];show (unPr ds).bind _=_;rw [h2];show (if ps.length≤4900 then _ else _)=_;rw [if_pos hl]
theorem dict_v' {f:Fe} {env:En} {ds:List D} {ps:List (Int×Int)} (h:f env=some (.lst ds)) (h2:unPT ds=some ps) (hl:ps.length≤1000000):un1 dictQ f env=some (.dct (ddP ps)):=by
  rw [un1_v h];show (unPT ds).bind _=_;rw [h2];show (if ps.length≤1000000 then _ else _)=_;rw [if_pos hl]
theorem putV_v {i:Nat} {fk:Fe} {env:En} {ks:List (Int×Int)} {a b:Int} (h:fk env=some (.tup [.int a,.int b])) (h1:env[i]?=some (.O (.T ks))) (hl:ks.length<16000000):putV i fk env=some (.nx (env.set i (.O (.T (putP ks (a,b)))))):=by
  unfold putV;rw [h,Option.bind_some,h1];show (if ks.length<16000000 then _ else _)=_;rw [if_pos hl]
end Mi
namespace St
open PySem L2
section
variable {prog:Program} {w:World} {A:Around} {E:Value→Shared→Prop} {s:Shared}
end
end St
namespace Mi
open PySem PySem.Spec PyProof.Rows L2
section
variable {elt:Expr} {gens:List Comprehension} {scope:Scope} {pos:Pos} {d:Nat} {tg iter:Expr} {ifs:List Expr} {it acc:Value} {env:Env}
end
structure AcS (X:Cx) (pins:List (Addr×Obj)) (a:Addr) (B Z H:Hp) (env:En) (σ:L2.St) (pre:List D) (s:Shared):Prop where
  I:Inv X pins σ H s
  R:Rl X.K B Z H env σ
  nO:∀ (i:Nat) ds,env[i]?≠some (.O ds)
  hb:B a=none
  hz:Z a=none
  ac:∃ (ps:List (Int×Int)) (xs:List ((Int×Int)×Addr)),unPr pre=some ps∧xs.map (·.1)=ddP ps∧H a=some (.ext (SetP a (xs.map (·.1)) (xs.map (·.2))))∧∀ x∈xs,SqT X.K Z x.2 [.int x.1.1,.int x.1.2]
def ActS (X:Cx) (a:Addr) (Bd:BdT) (k:En→Option (List D)):Prop:=∀ (pins:List (Addr×Obj)) (s:Shared) (σ:L2.St) (H B Z:Hp) (env:En) (pre xs:List D) (P:Shared→Prop) (E:Value→Shared→Prop),
  AcS X pins a B Z H env σ pre s→k env=some xs→pre.length+xs.length≤4900→(∀ s' σ' H' Z',AcS X pins a B Z' H' env σ' (pre++xs) s'→Ex Z B Z' H'→P s')→Bd P E s
section
variable {X:Cx} {a:Addr} {elt:Expr} {fe:Fe}
end
section
variable {P:Program} {w:World} {A:Around} {elt:Expr} {gens:List Comprehension} {scope:Scope} {pos:Pos} {d:Nat} {tg iter:Expr} {ifs:List Expr} {it acc:Value} {env:Env} {R:Result→Shared→Prop} {s:Shared}
end
section
variable {X:Cx} {a:Addr} {elt:Expr} {gens:List Comprehension} {scope:Scope} {pos:Pos} {d:Nat} {tg iter tg' iter':Expr} {ifs ifs':List Expr} {it:Addr}
end
structure BlkS (X:Cx) (a:Addr) (elt:Expr) (gens:List Comprehension) (scope:Scope) (pos:Pos) (d:Nat) (tg:Expr) (ifs:List Expr) (t:Ft) (c:Fb) (k:En→Option (List D)):Prop where
  g:GD X tg t
  ts:TsD X ifs c
  ex:∃ Bd,ActS X a Bd k∧∀ (it:Addr) (s:Shared) (Q:Fin→Shared→Prop) (E:Value→Shared→Prop),
      wpAny (model X.prog X.w) X.A (pyNext (.ref it)) (fun r s1=>match r with
        | none=>Q (.done .next) s1
        | some v=>wpAny (model X.prog X.w) X.A (letOwnedTupleGo tg (.ref it) v) (fun _ s2=>wpAny (model X.prog X.w) X.A (assign tg X.env v) (fun _ s3=>
            wpAny (model X.prog X.w) X.A (forIn ifs true fun c r=>if r=true then do let ok ← isTrue c X.env (eval c X.env);pure (ForInStep.yield ok) else pure (ForInStep.yield r)) (fun ok s4=>
              if ok=true then Bd (fun s5=>Q (.again (.compLoop (.SetComp elt gens scope pos) d (.ref it) (.ref a) X.env)) s5) E s4 else Q (.again (.compLoop (.SetComp elt gens scope pos) d (.ref it) (.ref a) X.env)) s4) E s3) E s2) E s1) E s→
      wpAny (model X.prog X.w) X.A (compTurn (.SetComp elt gens scope pos) d (.ref it) (.ref a) X.env) Q E s
section
variable {X:Cx} {a:Addr} {elt:Expr} {gens:List Comprehension} {scope:Scope} {pos:Pos} {d:Nat} {tg iter:Expr} {ifs:List Expr} {t:Ft} {c:Fb} {fe:Fe}
end
section
variable {X:Cx} {elt:Expr} {rest:List Comprehension} {scope:Scope} {pos:Pos} {tg iter:Expr} {ifs:List Expr} {t:Ft} {c:Fb} {k:En→Option (List D)} {fi:Fi} {is caps:List Nat} {cl:List (Str×Addr)} {Nc own:List Str}
end
end Mi
namespace St
open PySem L2
section
variable {prog:Program} {w:World} {K:Type} [DecidableEq K] (knd:KeyKind prog w K)
inductive Nest (h:Heap):List (List K)→List Value→Prop
  | nil:Nest h [] []
  | cons {k:List K} {b:Addr} {ks:List (List K)} {vs:List Value}:(tupleKind knd).is h k b→Nest h ks vs→Nest h (k::ks) (.ref b::vs)
variable {knd}
variable {A:Around} {E:Value→Shared→Prop} {s:Shared}
end
end St
namespace St
open PySem L2
section
variable {prog:Program} {w:World} {K:Type} [DecidableEq K] {knd:KeyKind prog w K} {A:Around} {E:Value→Shared→Prop} {s:Shared}
end
end St
namespace Mi
open PySem PySem.Spec PyProof.Rows L2
section
variable {K:Type} [DecidableEq K]
end
end Mi
namespace Mi
open PySem PySem.Spec PyProof.Rows L2
section
variable {X:Cx} {rg:Gr} {l r:Expr} {fa fb:Fe} {ga gb:Gr} {pos p:Pos} {k:Nat}
end
end Mi
namespace Mi
open PySem PySem.Spec PyProof.Rows L2
section
variable {X:Cx} {rg:Gr} {l r:Expr} {fa fb:Fe} {ga gb:Gr} {pos p:Pos} {k:Nat}
end
end Mi
namespace Mi
open PySem PySem.Spec PyProof.Rows L2
section
variable {X:Cx} {rg:Gr} {pos:Pos}
end
end Mi
namespace Mi
open PySem PySem.Spec PyProof.Rows L2
section
variable {X:Cx} {i:Expr} {fi:Fe} {pos p0 p1 p2 p3 p4:Pos} {k j1 j2 j3 j4:Nat}
end
end Mi
namespace Mi
open PySem PySem.Spec PyProof.Rows L2
section
open PySem.SeqAt
open PySem.AutoSeq1 (wpAny_loadPart')
open PySem.MeetsSeq PySem.MeetsSeq2 PySem.MeetsSeq3
end
section
variable {X:Cx} {l r:Expr} {fa fb:Fe} {ga gb:Gr} {pos p:Pos} {k:Nat}
end
end Mi
namespace Mi
open PySem PySem.Spec PyProof.Rows L2
section
variable {X:Cx} {rg:Gr} {pos:Pos}
end
end Mi
namespace Mi
open PySem
theorem ev_geI (i j:Int):geI (.int i) (.int j)=some (.bl (decide (j≤i))):=rfl
end Mi
namespace Mi
open PySem PySem.Spec PyProof.Rows L2
theorem iadd_seq {M:Model} {A:Around} {E:Value→Shared→Prop} {s:Shared} {a b:Value} {Q:Value→Shared→Prop} (ha:s.TypeIs a "list") (hb:s.TypeIs b "list")
    (hc:wpAny M A (call (.builtin "list.__iadd__") [a,b]) Q E s):wpAny M A (inplaceOp .Add a b) Q E s:=by
  unfold inplaceOp
  refine wpAny_holding ?_
  have hl:typeLookup (.type "list") (dunderI "add")=pure (some (.builtin "list.__iadd__")):=PySem.F.slot_list_iadd.lookup
  have hsl:isSeqSlot (some (.builtin "list.__iadd__"))=true:=by decide +kernel
  have hfi:fillsInplaceSlot (.type "list") "add" (Operator.Add==.Add)=pure false:=by
    unfold fillsInplaceSlot
    show (typeLookup (.type "list") (dunderI "add") >>= fun fi=>pure (fi.isSome&&!isSeqSlot fi))=pure false
    rw [hl]
    show (pure ((some (Value.builtin "list.__iadd__")).isSome&&!isSeqSlot (some (.builtin "list.__iadd__"))):Sem Bool)=pure false
    rw [hsl];rfl
  refine wpAny_bind (wpAny_typeOf ha (wpAny_bind (wpAny_of_eq hfi ?_)))
  show wpAny M A (if false=true then _ else _) Q E s
  rw [if_neg Bool.false_ne_true]
  refine wpAny_bind (PyProof.Rows.binaryOp1_none (nm:="add") ha hb noFill_list_add ?_)
  refine wpAny_bind (wpAny_of_eq (PySem.seqSlot_of hl hsl) ?_)
  exact wpAny_bind (wpAny_rule hc)
section
variable {X:Cx} {rg:Gr} {pos px:Pos} {x:Str} {e:Expr}
def ipL:TIp:=fun x y H Q=>∃ l b xs zs,x=.ref l∧y=.ref b∧H l=some (.lst xs)∧H b=some (.lst zs)∧xs.length+zs.length≤sizeLine∧Q (.ref l) (upd H l (.lst (xs++zs)))
theorem ip_list:PIp X .Add ipL:=by
  intro pins s σ H x y v u Q I rx ry h
  obtain ⟨l,b,xs,zs,rfl,rfl,hH,hB,hz,q⟩:=h
  cases (show v=Value.ref l from rx)
  cases (show u=Value.ref b from ry)
  obtain ⟨z,its,n,r,hl,e⟩:=I.lstM hH
  obtain ⟨z2,its2,n2,r2,hl2,e2⟩:=I.lstM hB
  have hsz:its.toArray.size+its2.toArray.size≤sizeLine:=by rw [List.size_toArray,List.size_toArray];omega
  have hlong:¬ (!its.toArray.isEmpty&&Builtin.List.listTooLong (its.toArray.size+its2.toArray.size))=true:=by
    rw [notLongL hsz,Bool.and_false]
    exact Bool.false_ne_true
  refine iadd_seq ⟨_,e,rfl⟩ ⟨_,e2,rfl⟩ (call_meets PySem.F.slot_list_iadd ⟨_,e,rfl⟩ PySem.F.entry_list_iadd (PySem.F.args_list_iadd_2 _ _)
    (AutoSeq1.list___iadd___list_list_0 l its.toArray n b its2.toArray n2 hlong (by rw [List.size_toArray];omega) (by omega)) ⟨e,e2,?_⟩)
  refine ⟨.ref l,_,I.lset (its':=its++its2) hH e (by simp) (r.append r2) ?_,rfl,q⟩
  rw [List.length_append]
  omega
theorem set_same {σ:L2.St} {i:Nat} {v:V} (h:σ[i]?=some (some v)):σ.set i (some v)=σ:=by
  apply List.ext_getElem?
  intro j
  by_cases z:i=j
  · subst z
    rw [List.getElem?_set_self (List.getElem?_eq_some_iff.mp h).1,h]
  · rw [List.getElem?_set_ne z]
theorem s_aug (i:Nat) {fe:Fe} (he:PD X .nw e fe) (hN:X.N.Nodup) (hi:X.N[i]?=some x:=by rfl) (hx:Loc X.env.scope x:=by first | exact Or.inl rfl | exact Or.inr rfl) (hf:X.fn x=true∨X.env.scope.names.lookup x=some .local:=by first | exact .inl rfl | exact .inr rfl | assumption) :
    SD X rg (.AugAssign (.Name x px) .Add e pos) (extF i fe):=by
  refine PS.imp (ps_aug hN hi hx he ip_list hf) fun E σ H hq_=>?_
  obtain ⟨env,B,Z,o,R,e,k⟩:=hq_
  unfold extF at e
  split at e
  · rename_i ds hi
    obtain ⟨d,e1,e2⟩:=Option.bind_eq_some_iff.mp e
    cases d<;>try cases e2
    rename_i es
    obtain ⟨hl,rfl⟩:=ifS e2
    obtain ⟨y,e3,a,o,e4,e5,e6,vs,rfl,r⟩:=R.sl i _ hi
    subst e4
    refine ⟨_,e3,env,B,Z,_,R,e1,fun v Z1 H1 x1 g1=>?_⟩
    obtain ⟨b,us,es',rfl,e7,h1,h2,h3,r2⟩:=g1
    cases e7
    have R1:=R.ext x1
    have r1:=Reps.mono x1.z ds r
    refine ⟨a,b,vs,us,rfl,rfl,x1.h _ _ e5,h2,by rw [← r.len,← r2.len,sizeLine_eq];omega,?_⟩
    obtain ⟨R2,x2⟩:=R1.wr hi e3 (OwnOk.l (r1.app r2))
    rw [set_same e3]
    exact k σ Z1 _ ((x1.part R.bh).transB x2) R2
  · cases e
end
end Mi
namespace Ts
open PySem PyProof.Rows
section
variable (num:Keyed→Int)
def kz (xs:Array Keyed) (i:Nat):Int:=match xs[i]? with | some p=>num p | none=>0
def Up (xs:Array Keyed) (a b:Nat):Prop:=∀ i j,a≤i→i≤j→j<b→kz num xs i≤kz num xs j
def Dn (xs:Array Keyed) (a b:Nat):Prop:=∀ i j,a≤i→i≤j→j<b→kz num xs j≤kz num xs i
theorem kz_congr {xs ys:Array Keyed} {i j:Nat} (h:xs[i]?=ys[j]?):kz num xs i=kz num ys j:=by unfold kz;rw [h]
theorem kz_at {xs:Array Keyed} {i:Nat} {p:Keyed} (h:xs[i]?=some p):kz num xs i=num p:=by unfold kz;rw [h]
theorem kz_mirror {xs:Array Keyed} {i j:Nat} (hj:j≤xs.size) (k:Nat) :
    kz num (mirror xs i j ((j-i)/2)) k=if i≤k∧k<j then kz num xs (i+j-1-k) else kz num xs k:=by
  have e:=getElem?_mirror_all (i:=i) hj k
  by_cases h1:i≤k∧k<j
  · rw [if_pos h1] at e ⊢;exact kz_congr num e
  · rw [if_neg h1] at e ⊢;exact kz_congr num e
theorem kz_bubble {xs:Array Keyed} {src d:Nat} (hs:src<xs.size) (hd:d≤src) (k:Nat) :
    kz num (bubble xs src d) k=if k=src-d then kz num xs src else if src-d<k∧k≤src then kz num xs (k-1) else kz num xs k:=by
  have e:=getElem?_bubble hs d hd k
  by_cases h1:k=src-d
  · rw [if_pos h1] at e ⊢;exact kz_congr num e
  · rw [if_neg h1] at e ⊢
    by_cases h2:src-d<k∧k≤src
    · rw [if_pos h2] at e ⊢;exact kz_congr num e
    · rw [if_neg h2] at e ⊢;exact kz_congr num e
end
def Kp (lo:Nat) (xs ys:Array Keyed):Prop:=∀ k,k<lo→ys[k]?=xs[k]?
structure SB (κ:SortKind) (a₀:Array Keyed) (pd:Array (Nat×Nat×Nat)) (st:SortSt):Prop where
  perm:(arrOf st).Perm a₀
  kind:kindOf st=κ
  failed:failedOf st=none
  pend:pendingOf st=pd
theorem SB.size {κ:SortKind} {a₀:Array Keyed} {pd:Array (Nat×Nat×Nat)} {st:SortSt} (h:SB κ a₀ pd st):(arrOf st).size=a₀.size:=h.perm.size_eq
theorem SB.put {κ:SortKind} {a₀:Array Keyed} {pd:Array (Nat×Nat×Nat)} {st:SortSt} (h:SB κ a₀ pd st) {xs:Array Keyed} (hp:xs.Perm (arrOf st)):SB κ a₀ pd (setArr st xs):=
  ⟨hp.trans h.perm,h.kind,h.failed,h.pend⟩
theorem SB.mem {κ:SortKind} {a₀:Array Keyed} {pd:Array (Nat×Nat×Nat)} {st:SortSt} (h:SB κ a₀ pd st) {i:Nat} {p:Keyed} (e:(arrOf st)[i]?=some p):p∈a₀.toList:=
  (Array.perm_iff_toList_perm.mp h.perm).mem_iff.mp (by
    obtain ⟨hi,rfl⟩:=Array.getElem?_eq_some_iff.mp e
    simp)
theorem SB.at {κ:SortKind} {a₀:Array Keyed} {pd:Array (Nat×Nat×Nat)} {st:SortSt} (h:SB κ a₀ pd st) {i:Nat} (hi:i<a₀.size):∃ p,(arrOf st)[i]?=some p∧p∈a₀.toList:=by
  have e:=Array.getElem?_eq_getElem (xs:=arrOf st) (by rw [h.size];exact hi:i<(arrOf st).size)
  exact ⟨_,e,h.mem e⟩
def Lts (prog:Program) (w:World) (A:Around) (s:Shared) (κ:SortKind) (num:Keyed→Int) (a₀:Array Keyed):Prop:=
  ∀ x∈a₀.toList,∀ y∈a₀.toList,∀ (E:Value→Shared→Prop) (Q:Bool→Shared→Prop),Q (decide (num x<num y)) s→wpAny (model prog w) A (keyLt' κ x.1 y.1) Q E s
def Dst (num:Keyed→Int) (a₀:Array Keyed):Prop:=(a₀.toList.map num).Nodup
theorem Dst.ne {num:Keyed→Int} {a₀ xs:Array Keyed} (h:Dst num a₀) (p:xs.Perm a₀) {i j:Nat} (hij:i<j) (hj:j<a₀.size):kz num xs i≠kz num xs j:=by
  have hn:(xs.toList.map num).Nodup:=(((Array.perm_iff_toList_perm.mp p).map num).nodup_iff).mpr h
  have hs:=p.size_eq
  have e1:=Array.getElem?_eq_getElem (xs:=xs) (show i<xs.size by omega)
  have e2:=Array.getElem?_eq_getElem (xs:=xs) (show j<xs.size by omega)
  rw [kz_at num e1,kz_at num e2]
  intro z
  have hl:(xs.toList.map num).length=xs.size:=by simp
  have:=(List.getElem_inj (xs:=xs.toList.map num) (i:=i) (j:=j) (h₀:=by omega) (h₁:=by omega) hn).mp (by simpa using z)
  omega
section
variable {prog:Program} {w:World} {A:Around} {E:Value→Shared→Prop} {s:Shared} {a₀:Array Keyed} {κ:SortKind} {num:Keyed→Int} {pd:Array (Nat×Nat×Nat)}
theorem wp_elem {M:Model} {arr:Array Keyed} {i:Nat} {p:Keyed} {Q:Keyed→SortSt→Prop} {st:SortSt} (h:arr[i]?=some p) (hq:Q p st):wpS M A E s (elem' arr i) Q st:=by
  rw [elem'_eq,h];exact wpS_pure hq
theorem wp_lt (L:Lts prog w A s κ num a₀) {st:SortSt} {x y:Keyed} {Q:Option Bool→SortSt→Prop} (hk:kindOf st=κ) (hx:x∈a₀.toList) (hy:y∈a₀.toList)
    (h:Q (some (decide (num x<num y))) st):wpS (model prog w) A E s (lt' x y) Q st:=by
  rw [lt'_eq]
  refine wpS_bind (wpS_get ?_)
  rw [hk]
  refine wpS_bind (wpS_lift (wpAny_attempt (L x hx y hy _ _ ⟨rfl,?_⟩)))
  exact wpS_pure h
theorem wp_ltAt (L:Lts prog w A s κ num a₀) {st:SortSt} {i j:Nat} {Q:Option Bool→SortSt→Prop} (hB:SB κ a₀ pd st) (hi:i<a₀.size) (hj:j<a₀.size)
    (h:Q (some (decide (kz num (arrOf st) i<kz num (arrOf st) j))) st):wpS (model prog w) A E s (ltAt' i j) Q st:=by
  obtain ⟨x,e1,m1⟩:=hB.at hi
  obtain ⟨y,e2,m2⟩:=hB.at hj
  rw [kz_at num e1,kz_at num e2] at h
  rw [ltAt'_eq]
  refine wpS_bind (wpS_get ?_)
  exact wpS_bind (wp_elem e1 (wpS_bind (wp_elem e2 (wp_lt L hB.kind m1 m2 h))))
theorem wp_count (L:Lts prog w A s κ num a₀) (D:Dst num a₀) {st:SortSt} {lo nrem:Nat} {Q:Option Nat→SortSt→Prop} (hn:lo+nrem≤a₀.size) (h1:1≤nrem) (hB:SB κ a₀ pd st)
    (h:∀ m st',SB κ a₀ pd st'→1≤m→m≤nrem→Up num (arrOf st') lo (lo+m)→Kp lo (arrOf st) (arrOf st')→Q (some m) st') :
    wpS (model prog w) A E s (countRun' lo nrem) Q st:=by
  have one:∀ xs:Array Keyed,Up num xs lo (lo+1):=fun xs i j a b c=>by
    have:i=j:=by omega
    subst this;exact Int.le_refl _
  rw [countRun'_eq]
  refine wpS_bind (wpS_mono (wpS_forRange (I:=fun x c st'=>st'=st∧c=(none,x)∧Up num (arrOf st) lo (lo+x))
    (Q:=fun c st'=>st'=st∧∃ n,c=(none,n)∧1≤n∧n≤nrem∧Up num (arrOf st) lo (lo+n)∧(n=nrem∨kz num (arrOf st) (lo+n)<kz num (arrOf st) (lo+n-1))) ?step ?fin ⟨rfl,rfl,one _⟩) ?post)
  case fin=>
    rintro c st' ⟨rfl,rfl,hs'⟩
    rw [show max 1 nrem=nrem by omega] at hs' ⊢
    exact ⟨rfl,nrem,rfl,h1,Nat.le_refl _,hs',.inl rfl⟩
  case step=>
    rintro x c st' hax hxn ⟨rfl,rfl,hs'⟩
    dsimp only
    refine wpS_bind (wp_ltAt L hB (by omega) (by omega) ?_)
    by_cases hless:kz num (arrOf st') (lo+x)<kz num (arrOf st') (lo+x-1)
    · simp only [hless,decide_true,if_true]
      exact wpS_pure ⟨rfl,x,rfl,hax,by omega,hs',.inr hless⟩
    · simp only [hless,decide_false,Bool.false_eq_true,if_false]
      refine wpS_pure ⟨rfl,rfl,fun i j hi hij hj=>?_⟩
      by_cases hjx:j<lo+x
      · exact hs' i j hi hij hjx
      · have hj':j=lo+x:=by omega
        subst hj'
        by_cases hi':i=lo+x
        · subst hi';exact Int.le_refl _
        · exact Int.le_trans (hs' i (lo+x-1) hi (by omega) (by omega)) (Int.not_lt.mp hless)
  case post=>
    rintro c st' ⟨rfl,n,rfl,hn1,hn2,hu,hor⟩
    dsimp only
    by_cases hnn:n=nrem
    · rw [if_pos (by simpa using hnn)]
      exact wpS_pure (h n _ hB hn1 hn2 hu fun _ _=>rfl)
    rw [if_neg (by simpa using hnn)]
    have hlt:=hor.resolve_left hnn
    by_cases hgt:n>1
    · rw [if_pos hgt]
      refine wpS_bind (wp_ltAt L hB (by omega) (by omega) ?_)
      have hr:kz num (arrOf st') lo<kz num (arrOf st') (lo+n-1):=by
        have a1:=hu lo (lo+n-1) (Nat.le_refl _) (by omega) (by omega)
        have a2:=D.ne hB.perm (i:=lo) (j:=lo+n-1) (by omega) (by omega)
        omega
      simp only [hr,decide_true,if_true]
      exact wpS_pure (h n _ hB hn1 hn2 hu fun _ _=>rfl)
    · rw [if_neg hgt]
      have hn1':n=1:=by omega
      subst hn1'
      refine wpS_bind (wpS_lift (wpAny_rule ⟨rfl,?_⟩))
      refine wpS_bind (wpS_mono (wpS_forRange (I:=fun x c st''=>st''=st'∧c=(none,x,0)∧Dn num (arrOf st') lo (lo+x))
        (Q:=fun c st''=>st''=st'∧∃ x,c=(none,x,0)∧2≤x∧x≤nrem∧Dn num (arrOf st') lo (lo+x)) ?s2 ?f2 ⟨rfl,rfl,?i2⟩) ?p2)
      case i2=>
        intro i j a b c
        by_cases hij:i=j
        · subst hij;exact Int.le_refl _
        · have e1:i=lo:=by omega
          have e2:j=lo+1:=by omega
          subst e1;subst e2
          exact Int.le_of_lt (by simpa using hlt)
      case f2=>
        rintro c st'' ⟨rfl,rfl,hd⟩
        have e:max (1+1) nrem=nrem:=by omega
        rw [e] at hd ⊢
        exact ⟨rfl,nrem,rfl,by omega,Nat.le_refl _,hd⟩
      case s2=>
        rintro x c st'' hx1 hx2 ⟨rfl,rfl,hd⟩
        dsimp only
        refine wpS_bind (wp_ltAt L hB (by omega) (by omega) ?_)
        by_cases hless:kz num (arrOf st'') (lo+x)<kz num (arrOf st'') (lo+x-1)
        · simp only [hless,decide_true,if_true]
          rw [if_neg (by omega)]
          refine wpS_pure ⟨rfl,rfl,fun i j hi hij hj=>?_⟩
          by_cases hjx:j<lo+x
          · exact hd i j hi hij hjx
          · have hj':j=lo+x:=by omega
            subst hj'
            by_cases hi':i=lo+x
            · subst hi';exact Int.le_refl _
            · exact Int.le_trans (Int.le_of_lt hless) (hd i (lo+x-1) hi (by omega) (by omega))
        · simp only [hless,decide_false,Bool.false_eq_true,if_false]
          refine wpS_bind (wp_ltAt L hB (by omega) (by omega) ?_)
          have hl:kz num (arrOf st'') (lo+x-1)<kz num (arrOf st'') (lo+x):=by
            have a2:=D.ne hB.perm (i:=lo+x-1) (j:=lo+x) (by omega) (by omega)
            omega
          simp only [hl,decide_true,if_true]
          exact wpS_pure ⟨rfl,x,rfl,by omega,by omega,hd⟩
      case p2=>
        rintro c st'' ⟨rfl,x,rfl,hx1,hx2,hd⟩
        dsimp only
        rw [if_neg (by omega)]
        rw [reverseSlice'_eq]
        refine wpS_bind (wpS_modify ?_)
        have hsz:lo+x≤(arrOf st'').size:=by rw [hB.size];omega
        have hB':SB κ a₀ pd (setArr st'' (mirror (arrOf st'') lo (lo+x) ((lo+x-lo)/2))):=hB.put (mirror_perm _ _ _ _)
        have hk:Kp lo (arrOf st'') (mirror (arrOf st'') lo (lo+x) ((lo+x-lo)/2)):=fun k hk=>by
          rw [getElem?_mirror_all hsz,if_neg (by omega)]
        have hu0:Up num (mirror (arrOf st'') lo (lo+x) ((lo+x-lo)/2)) lo (lo+x):=fun i j a b c=>by
          rw [kz_mirror num hsz,kz_mirror num hsz,if_pos (by omega),if_pos (by omega)]
          exact hd _ _ (by omega) (by omega) (by omega)
        generalize hst:setArr st'' (mirror (arrOf st'') lo (lo+x) ((lo+x-lo)/2))=st3 at hB'
        have ha3:arrOf st3=mirror (arrOf st'') lo (lo+x) ((lo+x-lo)/2):=by rw [← hst]
        rw [← ha3] at hk hu0
        refine wpS_bind (wpS_mono (wpS_forRange (I:=fun y c st4=>st4=st3∧c=(none,y)∧Up num (arrOf st3) lo (lo+y))
          (Q:=fun c st4=>st4=st3∧∃ y,c=(none,y)∧1≤y∧y≤nrem∧Up num (arrOf st3) lo (lo+y)) ?s3 ?f3 ⟨rfl,rfl,hu0⟩) ?p3)
        case f3=>
          rintro c st4 ⟨rfl,rfl,hd⟩
          have e:max x nrem=nrem:=by omega
          rw [e] at hd ⊢
          exact ⟨rfl,nrem,rfl,by omega,Nat.le_refl _,hd⟩
        case s3=>
          rintro y c st4 hy1 hy2 ⟨rfl,rfl,hs'⟩
          dsimp only
          refine wpS_bind (wp_ltAt L hB' (by omega) (by omega) ?_)
          by_cases hless:kz num (arrOf st4) (lo+y)<kz num (arrOf st4) (lo+y-1)
          · simp only [hless,decide_true,if_true]
            exact wpS_pure ⟨rfl,y,rfl,by omega,by omega,hs'⟩
          · simp only [hless,decide_false,Bool.false_eq_true,if_false]
            refine wpS_pure ⟨rfl,rfl,fun i j hi hij hj=>?_⟩
            by_cases hjx:j<lo+y
            · exact hs' i j hi hij hjx
            · have hj':j=lo+y:=by omega
              subst hj'
              by_cases hi':i=lo+y
              · subst hi';exact Int.le_refl _
              · exact Int.le_trans (hs' i (lo+y-1) hi (by omega) (by omega)) (Int.not_lt.mp hless)
        case p3=>
          rintro c st4 ⟨rfl,y,rfl,hy1,hy2,hu3⟩
          dsimp only
          exact wpS_pure (h y _ hB' hy1 hy2 hu3 hk)
end
end Ts
namespace Ts
open PySem PyProof.Rows
section
variable {prog:Program} {w:World} {A:Around} {E:Value→Shared→Prop} {s:Shared} {a₀:Array Keyed} {κ:SortKind} {num:Keyed→Int} {pd:Array (Nat×Nat×Nat)}
theorem wp_bin (L:Lts prog w A s κ num a₀) {st:SortSt} {lo n ok:Nat} {Q:Bool→SortSt→Prop} (hn:lo+n≤a₀.size) (hok:ok≤n) (hB:SB κ a₀ pd st) (hs:Up num (arrOf st) lo (lo+ok))
    (h:∀ st',SB κ a₀ pd st'→Up num (arrOf st') lo (lo+n)→Kp lo (arrOf st) (arrOf st')→Q true st'):wpS (model prog w) A E s (binarySort' lo n ok) Q st:=by
  rw [binarySort'_eq]
  refine wpS_bind (wpS_mono (wpS_forRange (I:=fun k c st'=>c=(none,())∧SB κ a₀ pd st'∧Up num (arrOf st') lo (lo+min k n)∧Kp lo (arrOf st) (arrOf st'))
    (Q:=fun c st'=>c=(none,())∧SB κ a₀ pd st'∧Up num (arrOf st') lo (lo+n)∧Kp lo (arrOf st) (arrOf st')) ?step ?fin ?init) ?post)
  case post=>
    rintro c st' ⟨rfl,hB',hs',hk⟩
    exact wpS_pure (h st' hB' hs' hk)
  case init=>
    refine ⟨rfl,hB,fun i j hi hij hj=>?_,fun _ _=>rfl⟩
    by_cases h1:ok=0
    · have:i=j:=by omega
      subst this;exact Int.le_refl _
    · exact hs i j hi hij (by omega)
  case fin=>
    rintro c st' ⟨hc,hB',hs',hk⟩
    refine ⟨hc,hB',?_,hk⟩
    rwa [show min (max (max ok 1) n) n=n by omega] at hs'
  case step=>
    rintro k c st' hak hkn ⟨rfl,hB',hs',hkp⟩
    rw [show min k n=k by omega] at hs'
    have hk:lo+k<a₀.size:=by omega
    refine wpS_bind (wpS_mono (wpS_forRange (I:=fun x c st''=>st''=st'∧∃ l r,c=(none,l,r)∧l≤r∧r≤k∧r-l≤k-x∧
        (∀ i,lo≤i→i<lo+l→kz num (arrOf st') i≤kz num (arrOf st') (lo+k))∧(∀ i,lo+r≤i→i<lo+k→kz num (arrOf st') (lo+k)<kz num (arrOf st') i))
      (Q:=fun c st''=>st''=st'∧∃ l r,c=(none,l,r)∧l≤k∧
        (∀ i,lo≤i→i<lo+l→kz num (arrOf st') i≤kz num (arrOf st') (lo+k))∧(∀ i,lo+l≤i→i<lo+k→kz num (arrOf st') (lo+k)<kz num (arrOf st') i)) ?istep ?ifin ?iinit) ?ipost)
    case iinit=>exact ⟨rfl,0,k,rfl,by omega,by omega,by omega,fun i _ hi=>by omega,fun i h1 h2=>by omega⟩
    case ifin=>
      rintro c st'' ⟨rfl,l,r,rfl,hlr,hrk,hm,hlo,hhi⟩
      have:l=r:=by omega
      subst this
      exact ⟨rfl,l,l,rfl,hrk,hlo,hhi⟩
    case istep=>
      rintro x c st'' _ hxk ⟨rfl,l,r,rfl,hlr,hrk,hm,hlo,hhi⟩
      dsimp only
      by_cases hge:l≥r
      · rw [if_pos hge]
        have:l=r:=by omega
        subst this
        exact wpS_pure ⟨rfl,l,l,rfl,hrk,hlo,hhi⟩
      · rw [if_neg hge]
        refine wpS_bind (wp_ltAt L hB' hk (by omega) ?_)
        by_cases hless:kz num (arrOf st'') (lo+k)<kz num (arrOf st'') (lo+(l+r)/2)
        · simp only [hless,decide_true,if_true]
          refine wpS_pure ⟨rfl,l,(l+r)/2,rfl,by omega,by omega,by omega,hlo,fun i h1 h2=>?_⟩
          exact Int.lt_of_lt_of_le hless (hs' _ _ (by omega) h1 h2)
        · simp only [hless,decide_false,Bool.false_eq_true,if_false]
          refine wpS_pure ⟨rfl,(l+r)/2+1,r,rfl,by omega,by omega,by omega,fun i h0 h1=>?_,hhi⟩
          exact Int.le_trans (hs' i (lo+(l+r)/2) h0 (by omega) (by omega)) (Int.not_lt.mp hless)
    case ipost=>
      rintro c st'' ⟨rfl,l,r,rfl,hlk,hlo,hhi⟩
      show wpS _ _ _ _ (do moveDown' (lo+k) (lo+l);pure (ForInStep.yield (none,()))) _ _
      rw [moveDown'_eq]
      have hks:lo+k<(arrOf st'').size:=by rw [hB'.size];exact hk
      refine wpS_bind (wpS_modify (wpS_pure ⟨rfl,hB'.put (bubble_perm _ _ _),?_,fun i hi=>?_⟩))
      · rw [show min (k+1) n=k+1 by omega]
        intro i j hi hij hj
        show kz num (bubble (arrOf st'') (lo+k) (lo+k-(lo+l))) i≤kz num (bubble (arrOf st'') (lo+k) (lo+k-(lo+l))) j
        rw [kz_bubble num hks (by omega),kz_bubble num hks (by omega),show lo+k-(lo+k-(lo+l))=lo+l by omega]
        repeat' split
        all_goals first
          | (exfalso;omega)
          | exact Int.le_refl _
          | exact hlo _ (by omega) (by omega)
          | exact Int.le_of_lt (hhi _ (by omega) (by omega))
          | exact hs' _ _ (by omega) (by omega) (by omega)
      · rw [← hkp i hi]
        show (bubble (arrOf st'') (lo+k) (lo+k-(lo+l)))[i]?=_
        rw [getElem?_bubble hks _ (by omega),if_neg (by omega),if_neg (by omega)]
def gallop':Bool→Keyed→Array Keyed→Nat→Nat→Nat→StateT SortSt Sem (Option Nat):=sortPriv% PySem.Builtin.gallop
def byd (left:Bool) (key:Keyed) (arr:Array Keyed) (base i:Nat):StateT SortSt Sem (Option Bool):=do
  let x ← elem' arr (base+i)
  if left then lt' x key else return (← lt' key x).map (!·)
theorem gallop'_eq (left:Bool) (key:Keyed) (arr:Array Keyed) (base n hint:Nat):gallop' left key arr base n hint=(do
  let mut last:=0
  let mut ofs:=1
  let mut lo:=0
  let mut hi:=0
  let some right ← byd left key arr base hint | return none
  if right then
    let most:=n-hint
    for _ in [0:n] do
      if ofs≥most then break
      let some more ← byd left key arr base (hint+ofs) | return none
      if !more then break
      last:=ofs
      ofs:=2*ofs+1
    lo:=hint+last+1
    hi:=hint+min ofs most
  else
    let most:=hint+1
    for _ in [0:n] do
      if ofs≥most then break
      let some found ← byd left key arr base (hint-ofs) | return none
      if found then break
      last:=ofs
      ofs:=2*ofs+1
    lo:=hint+1-min ofs most
    hi:=hint-last
  for _ in [0:n] do
    if lo≥hi then break
    let m:=lo+(hi-lo)/2
    let some more ← byd left key arr base m | return none
    if more then lo:=m+1 else hi:=m
  return some hi):=rfl
def binT (left:Bool) (key:Keyed) (arr:Array Keyed) (base n l r:Nat):StateT SortSt Sem (Option Nat):=do
  let mut lo:=l
  let mut hi:=r
  for _ in [0:n] do
    if lo≥hi then break
    let m:=lo+(hi-lo)/2
    let some more ← byd left key arr base m | return none
    if more then lo:=m+1 else hi:=m
  return some hi
theorem wp_binT {M:Model} {st:SortSt} {left:Bool} {key:Keyed} {arr:Array Keyed} {base n l r:Nat} {Q:Option Nat→SortSt→Prop} (B:Nat→Bool)
    (hb:∀ i,i<n→∀ Q:Option Bool→SortSt→Prop,Q (some (B i)) st→wpS M A E s (byd left key arr base i) Q st)
    (hm:∀ i j,i≤j→j<n→B j=true→B i=true) (hlr:l≤r) (hr:r≤n) (hl:∀ i,i<l→B i=true) (hg:∀ i,r≤i→i<n→B i=false)
    (h:∀ k,k≤n→(∀ i,i<k→B i=true)→(∀ i,k≤i→i<n→B i=false)→Q (some k) st):wpS M A E s (binT left key arr base n l r) Q st:=by
  unfold binT
  refine wpS_bind (wpS_mono (wpS_forRange (I:=fun x c st'=>st'=st∧∃ l r,c=(none,l,r)∧l≤r∧r≤n∧r-l≤n-x∧(∀ i,i<l→B i=true)∧(∀ i,r≤i→i<n→B i=false))
    (Q:=fun c st'=>st'=st∧∃ k,c=(none,k,k)∧k≤n∧(∀ i,i<k→B i=true)∧(∀ i,k≤i→i<n→B i=false)) ?step ?fin ⟨rfl,l,r,rfl,hlr,hr,by omega,hl,hg⟩) ?post)
  case fin=>
    rintro c st' ⟨rfl,l,r,rfl,h1,h2,h3,h4,h5⟩
    have:l=r:=by omega
    subst this
    exact ⟨rfl,l,rfl,h2,h4,h5⟩
  case step=>
    rintro x c st' _ hx ⟨rfl,l,r,rfl,h1,h2,h3,h4,h5⟩
    dsimp only
    by_cases hge:l≥r
    · rw [if_pos hge]
      have:l=r:=by omega
      subst this
      exact wpS_pure ⟨rfl,l,rfl,h2,h4,h5⟩
    · rw [if_neg hge]
      refine wpS_bind (hb _ (by omega) _ ?_)
      dsimp only
      cases e:B (l+(r-l)/2) with
      | true=>
        rw [if_pos rfl]
        exact wpS_pure ⟨rfl,_,r,rfl,by omega,h2,by omega,fun i hi=>hm i _ (by omega) (by omega) e,h5⟩
      | false=>
        rw [if_neg (by simp)]
        refine wpS_pure ⟨rfl,l,_,rfl,by omega,by omega,by omega,h4,fun i h6 h7=>?_⟩
        cases e2:B i with
        | false=>rfl
        | true=>rw [hm _ i h6 h7 e2] at e;cases e
  case post=>
    rintro c st' ⟨rfl,k,rfl,h1,h2,h3⟩
    exact wpS_pure (h k h1 h2 h3)
theorem wp_gallop {M:Model} {st:SortSt} {left:Bool} {key:Keyed} {arr:Array Keyed} {base n hint:Nat} {Q:Option Nat→SortSt→Prop} (B:Nat→Bool)
    (hb:∀ i,i<n→∀ Q:Option Bool→SortSt→Prop,Q (some (B i)) st→wpS M A E s (byd left key arr base i) Q st)
    (hm:∀ i j,i≤j→j<n→B j=true→B i=true) (hh:hint<n)
    (h:∀ k,k≤n→(∀ i,i<k→B i=true)→(∀ i,k≤i→i<n→B i=false)→Q (some k) st):wpS M A E s (gallop' left key arr base n hint) Q st:=by
  have hf:∀ i j,i≤j→j<n→B i=false→B j=false:=fun i j a b c=>by
    cases e:B j with
    | false=>rfl
    | true=>rw [hm i j a b e] at c;cases c
  rw [gallop'_eq]
  refine wpS_bind (hb hint hh _ ?_)
  dsimp only
  cases e0:B hint with
  | true=>
    rw [if_pos rfl]
    refine wpS_bind (wpS_mono (wpS_forRange (I:=fun x c st'=>st'=st∧∃ l o,c=(none,l,o)∧l<o∧x<o∧hint+l<n∧B (hint+l)=true)
      (Q:=fun c st'=>st'=st∧∃ l o,c=(none,l,o)∧l<o∧hint+l<n∧B (hint+l)=true∧(o≥n-hint∨B (hint+o)=false)) ?s1 ?f1 ⟨rfl,0,1,rfl,by omega,by omega,by omega,e0⟩) ?p1)
    case f1=>
      rintro c st' ⟨rfl,l,o,rfl,h1,h2,h3,h4⟩
      exact ⟨rfl,l,o,rfl,h1,h3,h4,.inl (by omega)⟩
    case s1=>
      rintro x c st' _ hx ⟨rfl,l,o,rfl,h1,h2,h3,h4⟩
      dsimp only
      by_cases hge:o≥n-hint
      · rw [if_pos hge];exact wpS_pure ⟨rfl,l,o,rfl,h1,h3,h4,.inl hge⟩
      · rw [if_neg hge]
        refine wpS_bind (hb _ (by omega) _ ?_)
        dsimp only
        cases e:B (hint+o) with
        | true=>exact wpS_pure ⟨rfl,o,_,rfl,by omega,by omega,by omega,e⟩
        | false=>exact wpS_pure ⟨rfl,l,o,rfl,h1,h3,h4,.inr e⟩
    case p1=>
      rintro c st' ⟨rfl,l,o,rfl,h1,h3,h4,h5⟩
      exact wp_binT (l:=hint+l+1) (r:=hint+min o (n-hint)) B hb hm (by omega) (by omega) (fun i hi=>hm i _ (by omega) h3 h4) (fun i h6 h7=>by
        rcases h5 with h5 | h5
        · omega
        · exact hf (hint+o) i (by omega) h7 h5) h
  | false=>
    rw [if_neg (by simp)]
    refine wpS_bind (wpS_mono (wpS_forRange (I:=fun x c st'=>st'=st∧∃ l o,c=(none,l,o)∧l<o∧x<o∧l≤hint∧B (hint-l)=false)
      (Q:=fun c st'=>st'=st∧∃ l o,c=(none,l,o)∧l<o∧l≤hint∧B (hint-l)=false∧(o≥hint+1∨B (hint-o)=true)) ?s1 ?f1 ⟨rfl,0,1,rfl,by omega,by omega,by omega,e0⟩) ?p1)
    case f1=>
      rintro c st' ⟨rfl,l,o,rfl,h1,h2,h3,h4⟩
      exact ⟨rfl,l,o,rfl,h1,h3,h4,.inl (by omega)⟩
    case s1=>
      rintro x c st' _ hx ⟨rfl,l,o,rfl,h1,h2,h3,h4⟩
      dsimp only
      by_cases hge:o≥hint+1
      · rw [if_pos hge];exact wpS_pure ⟨rfl,l,o,rfl,h1,h3,h4,.inl hge⟩
      · rw [if_neg hge]
        refine wpS_bind (hb _ (by omega) _ ?_)
        dsimp only
        cases e:B (hint-o) with
        | true=>exact wpS_pure ⟨rfl,l,o,rfl,h1,h3,h4,.inr e⟩
        | false=>exact wpS_pure ⟨rfl,o,_,rfl,by omega,by omega,by omega,e⟩
    case p1=>
      rintro c st' ⟨rfl,l,o,rfl,h1,h3,h4,h5⟩
      exact wp_binT (l:=hint+1-min o (hint+1)) (r:=hint-l) B hb hm (by omega) (by omega) (fun i hi=>by
        rcases h5 with h5 | h5
        · omega
        · exact hm i (hint-o) (by omega) (by omega) h5) (fun i h6 h7=>hf (hint-l) i h6 h7 h4) h
end
end Ts
namespace Ts
open PySem PyProof.Rows
section
variable (num:Keyed→Int)
def Srt (l:List Keyed):Prop:=l.Pairwise fun x y=>num x≤num y
structure Md (F o X Y:List Keyed):Prop where
  pm:(o++X++Y).Perm F
  so:Srt num o
  sx:Srt num X
  sy:Srt num Y
  ox:∀ u∈o,∀ x∈X,num u≤num x
  oy:∀ u∈o,∀ y∈Y,num u≤num y
end
section
variable {num:Keyed→Int} {F o X Y X1 Y1:List Keyed}
theorem Md.as (h:Md num F o (X1++X) Y) (k:∀ x∈X1,∀ y∈Y,num x≤num y):Md num F (o++X1) X Y:=by
  obtain ⟨pm,so,sx,sy,ox,oy⟩:=h
  obtain ⟨s1,s2,s3⟩:=List.pairwise_append.mp sx
  refine ⟨by simpa using pm,List.pairwise_append.mpr ⟨so,s1,fun u hu x hx=>ox u hu x (List.mem_append_left _ hx)⟩,s2,sy,fun u hu x hx=>?_,fun u hu y hy=>?_⟩
  · rcases List.mem_append.mp hu with hu | hu
    · exact ox u hu x (List.mem_append_right _ hx)
    · exact s3 u hu x hx
  · rcases List.mem_append.mp hu with hu | hu
    · exact oy u hu y hy
    · exact k u hu y hy
theorem Md.bs (h:Md num F o X (Y1++Y)) (k:∀ y∈Y1,∀ x∈X,num y≤num x):Md num F (o++Y1) X Y:=by
  obtain ⟨pm,so,sx,sy,ox,oy⟩:=h
  obtain ⟨s1,s2,s3⟩:=List.pairwise_append.mp sy
  refine ⟨List.Perm.trans ?_ pm,List.pairwise_append.mpr ⟨so,s1,fun u hu x hx=>oy u hu x (List.mem_append_left _ hx)⟩,sx,s2,fun u hu x hx=>?_,fun u hu y hy=>?_⟩
  · simp only [List.append_assoc]
    refine List.Perm.append_left o ?_
    rw [← List.append_assoc,← List.append_assoc]
    exact List.Perm.append_right Y List.perm_append_comm
  · rcases List.mem_append.mp hu with hu | hu
    · exact ox u hu x hx
    · exact k u hu x hx
  · rcases List.mem_append.mp hu with hu | hu
    · exact oy u hu y (List.mem_append_right _ hy)
    · exact s3 u hu y hy
theorem Md.endA (h:Md num F o X []):(o++X).Perm F∧Srt num (o++X):=⟨by simpa using h.pm,List.pairwise_append.mpr ⟨h.so,h.sx,h.ox⟩⟩
theorem Md.endB (h:Md num F o X Y) (k:∀ y∈Y,∀ x∈X,num y≤num x):(o++Y++X).Perm F∧Srt num (o++Y++X):=by
  have:=(Md.bs (Y1:=Y) (Y:=[]) (by simpa using h) k).endA
  exact this
theorem Md.endX (h:Md num F o X Y) (k:∀ x∈X,∀ y∈Y,num x≤num y):(o++X++Y).Perm F∧Srt num (o++X++Y):=by
  have g:=Md.as (X1:=X) (X:=[]) (by simpa using h) k
  exact ⟨h.pm,List.pairwise_append.mpr ⟨g.so,g.sy,g.oy⟩⟩
end
section
variable {prog:Program} {w:World} {A:Around} {E:Value→Shared→Prop} {s:Shared} {a₀:Array Keyed} {κ:SortKind} {num:Keyed→Int} {pd:Array (Nat×Nat×Nat)}
theorem wp_byd (L:Lts prog w A s κ num a₀) {st:SortSt} {left:Bool} {key x:Keyed} {arr:Array Keyed} {base i:Nat} {Q:Option Bool→SortSt→Prop} (hk:kindOf st=κ) (hkey:key∈a₀.toList)
    (hx:arr[base+i]?=some x) (hm:x∈a₀.toList) (h:Q (some (if left then decide (num x<num key) else !decide (num key<num x))) st):wpS (model prog w) A E s (byd left key arr base i) Q st:=by
  unfold byd
  refine wpS_bind (wp_elem hx ?_)
  cases left with
  | true=>rw [if_pos rfl] at h ⊢;exact wp_lt L hk hm hkey h
  | false=>
    rw [if_neg (by simp)] at h ⊢
    exact wpS_bind (wp_lt L hk hkey hm (wpS_pure h))
theorem mem_takeI {X:List Keyed} {k:Nat} {x:Keyed} (h:x∈X.take k):∃ i,i<k∧X[i]?=some x:=by
  obtain ⟨i,hi⟩:=List.mem_iff_getElem?.mp h
  rw [List.getElem?_take] at hi
  split at hi
  · exact ⟨i,by assumption,hi⟩
  · cases hi
theorem mem_dropI {X:List Keyed} {k:Nat} {x:Keyed} (h:x∈X.drop k):∃ i,k≤i∧X[i]?=some x:=by
  obtain ⟨i,hi⟩:=List.mem_iff_getElem?.mp h
  rw [List.getElem?_drop] at hi
  exact ⟨k+i,by omega,hi⟩
theorem Srt.at {X:List Keyed} (h:Srt num X) {i j:Nat} {x y:Keyed} (hij:i≤j) (h1:X[i]?=some x) (h2:X[j]?=some y):num x≤num y:=by
  by_cases e:i=j
  · subst e;rw [h1] at h2;cases h2;exact Int.le_refl _
  · obtain ⟨a1,rfl⟩:=List.getElem?_eq_some_iff.mp h1
    obtain ⟨a2,rfl⟩:=List.getElem?_eq_some_iff.mp h2
    exact List.pairwise_iff_getElem.mp h i j a1 a2 (by omega)
theorem wp_gal (L:Lts prog w A s κ num a₀) {st:SortSt} {left:Bool} {key:Keyed} {arr:Array Keyed} {base n hint:Nat} {X:List Keyed} {Q:Option Nat→SortSt→Prop} (hk:kindOf st=κ) (hkey:key∈a₀.toList)
    (hn:n=X.length) (hX:∀ i,i<n→arr[base+i]?=X[i]?) (hm:∀ x∈X,x∈a₀.toList) (hs:Srt num X) (hh:hint<n)
    (h:∀ k,k≤n→(∀ x∈X.take k,(if left then decide (num x<num key) else !decide (num key<num x))=true)→(∀ x∈X.drop k,(if left then decide (num x<num key) else !decide (num key<num x))=false)→Q (some k) st) :
    wpS (model prog w) A E s (gallop' left key arr base n hint) Q st:=by
  let B:Nat→Bool:=fun i=>match X[i]? with
    | some x=>if left then decide (num x<num key) else !decide (num key<num x)
    | none=>false
  have hB:∀ {i x},X[i]?=some x→B i=(if left then decide (num x<num key) else !decide (num key<num x)):=fun {i x} e=>by show (match X[i]? with | some x=>_ | none=>false)=_;rw [e]
  refine wp_gallop B (fun i hi Q h=>?_) (fun i j hij hj hb=>?_) hh fun k h1 h2 h3=>h k h1 (fun x hx=>?_) (fun x hx=>?_)
  · have e:X[i]?=some X[i]:=List.getElem?_eq_getElem (by omega)
    rw [hB e] at h
    exact wp_byd L hk hkey (by rw [hX i hi];exact e) (hm _ (List.mem_of_getElem? e)) h
  · have e1:X[i]?=some X[i]:=List.getElem?_eq_getElem (by omega)
    have e2:X[j]?=some X[j]:=List.getElem?_eq_getElem (by omega)
    rw [hB e2] at hb
    rw [hB e1]
    have:=hs.at hij e1 e2
    cases left<;>simp at hb ⊢<;>omega
  · obtain ⟨i,hi,e⟩:=mem_takeI hx
    rw [← hB e];exact h2 i hi
  · obtain ⟨i,hi,e⟩:=mem_dropI hx
    rw [← hB e];exact h3 i hi (by have:=(List.getElem?_eq_some_iff.mp e).1;omega)
def mergeLo':Array Keyed→Array Keyed→StateT SortSt Sem (Array Keyed):=sortPriv% PySem.Builtin.mergeLo
def mgSet':Nat→StateT SortSt Sem Unit:=sortPriv% PySem.Builtin.setMinGallop
theorem mgSet'_eq (g:Nat):mgSet' g=modify fun z=>SortSt.mk' (kindOf z) (arrOf z) (pendingOf z) g (failedOf z):=rfl
theorem mergeLo'_eq (a b:Array Keyed):mergeLo' a b=(do
  rule "list.sort.merge-lo"
  let tot:=a.size+b.size
  let fa (o:Array Keyed) (p q:Nat):=o++a.extract p a.size++b.extract q b.size
  let fb (o:Array Keyed) (p q:Nat):=o++b.extract q b.size++a.extract p a.size
  let mut o:Array Keyed:=#[← elem' b 0]
  let mut p:=0
  let mut q:=1
  if q==b.size then return fa o p q
  if p+1==a.size then return fb o p q
  let mut mg:=gallopOf (← get)
  for _ in [0:tot] do
    let mut ca:=0
    let mut cb:=0
    for _ in [0:tot] do
      let some won ← lt' (← elem' b q) (← elem' a p) | return fa o p q
      if won then
        o:=o.push (← elem' b q);q:=q+1;cb:=cb+1;ca:=0
        if q==b.size then return fa o p q
        if cb≥mg then break
      else
        o:=o.push (← elem' a p);p:=p+1;ca:=ca+1;cb:=0
        if p+1==a.size then return fb o p q
        if ca≥mg then break
    rule "list.sort.gallop"
    mg:=mg+1
    for _ in [0:tot] do
      if mg>1 then mg:=mg-1
      mgSet' mg
      let some k ← gallop' false (← elem' b q) a p (a.size-p) 0 | return fa o p q
      ca:=k
      if k>0 then
        o:=o++a.extract p (p+k);p:=p+k
        if p+1==a.size then return fb o p q
        if p==a.size then return fa o p q
      o:=o.push (← elem' b q);q:=q+1
      if q==b.size then return fa o p q
      let some k ← gallop' true (← elem' a p) b q (b.size-q) 0 | return fa o p q
      cb:=k
      if k>0 then
        o:=o++b.extract q (q+k);q:=q+k
        if q==b.size then return fa o p q
      o:=o.push (← elem' a p);p:=p+1
      if p+1==a.size then return fb o p q
      if ca<7&&cb<7 then break
    mg:=mg+1
    mgSet' mg
  unsupported "internal:list.sort.merge-bound"):=rfl
abbrev S7:=Option (Array Keyed)×Array Keyed×Nat×Nat×Nat×Nat×Nat
def lo3 (a b o:Array Keyed) (p q mg k kk:Nat):StateT SortSt Sem (ForInStep S7):=do
  let x ← elem' a p
  if (p+1+1==a.size)=true then pure (.done (some (o.push x++b.extract q b.size++a.extract (p+1) a.size),o.push x,p+1,q,mg,k,kk))
  else if (decide (k<7)&&decide (kk<7))=true then pure (.done (none,o.push x,p+1,q,mg,k,kk))
  else pure (.yield (none,o.push x,p+1,q,mg,k,kk))
def lo2 (a b o:Array Keyed) (p q mg k cb:Nat):StateT SortSt Sem (ForInStep S7):=do
  let y ← elem' b q
  if (q+1==b.size)=true then pure (.done (some (o.push y++a.extract p a.size++b.extract (q+1) b.size),o.push y,p,q+1,mg,k,cb))
  else do
    let x ← elem' a p
    let z ← gallop' true x b (q+1) (b.size-(q+1)) 0
    match z with
    | some kk=>
      if kk>0 then
        if (q+1+kk==b.size)=true then pure (.done (some (o.push y++b.extract (q+1) (q+1+kk)++a.extract p a.size++b.extract (q+1+kk) b.size),o.push y++b.extract (q+1) (q+1+kk),p,q+1+kk,mg,k,kk))
        else lo3 a b (o.push y++b.extract (q+1) (q+1+kk)) p (q+1+kk) mg k kk
      else lo3 a b (o.push y) p (q+1) mg k kk
    | _=>pure (.done (some (o.push y++a.extract p a.size++b.extract (q+1) b.size),o.push y,p,q+1,mg,k,cb))
def lo1 (a b o:Array Keyed) (p q mg ca cb:Nat):StateT SortSt Sem (ForInStep S7):=do
  mgSet' mg
  let y ← elem' b q
  let z ← gallop' false y a p (a.size-p) 0
  match z with
  | some k=>
    if k>0 then
      if (p+k+1==a.size)=true then pure (.done (some (o++a.extract p (p+k)++b.extract q b.size++a.extract (p+k) a.size),o++a.extract p (p+k),p+k,q,mg,k,cb))
      else if (p+k==a.size)=true then pure (.done (some (o++a.extract p (p+k)++a.extract (p+k) a.size++b.extract q b.size),o++a.extract p (p+k),p+k,q,mg,k,cb))
      else lo2 a b (o++a.extract p (p+k)) (p+k) q mg k cb
    else lo2 a b o p q mg k cb
  | _=>pure (.done (some (o++a.extract p a.size++b.extract q b.size),o,p,q,mg,ca,cb))
structure Sm (x y:SortSt):Prop where
  a:arrOf y=arrOf x
  k:kindOf y=kindOf x
  p:pendingOf y=pendingOf x
  f:failedOf y=failedOf x
theorem Sm.rfl {x:SortSt}:Sm x x:=⟨_root_.rfl,_root_.rfl,_root_.rfl,_root_.rfl⟩
def Res (num:Keyed→Int) (F:List Keyed) (r:Array Keyed):Prop:=r.toList.Perm F∧Srt num r.toList
def InL (num:Keyed→Int) (F:List Keyed) (a b o:Array Keyed) (p q:Nat):Prop:=p+1<a.size∧q<b.size∧Md num F o.toList (a.toList.drop p) (b.toList.drop q)
def IG (num:Keyed→Int) (F:List Keyed) (a b:Array Keyed) (z:Nat) (st:SortSt) (c:S7) (st':SortSt):Prop:=
  Sm st st'∧∃ o p q mg ca cb,c=(none,o,p,q,mg,ca,cb)∧InL num F a b o p q∧z≤o.size
def RG (num:Keyed→Int) (F:List Keyed) (st:SortSt) (c:S7) (st':SortSt):Prop:=Sm st st'∧∃ r d,c=(some r,d)∧Res num F r
def PG (num:Keyed→Int) (F:List Keyed) (a b:Array Keyed) (z:Nat) (st:SortSt) (r:ForInStep S7) (st':SortSt):Prop:=match r with
  | .done c=>IG num F a b z st c st'∨RG num F st c st'
  | .yield c=>IG num F a b z st c st'
theorem drop_cons {a:Array Keyed} {p:Nat} (h:p<a.size):a.toList.drop p=a[p]::a.toList.drop (p+1):=by
  rw [List.drop_eq_getElem_cons (by simpa using h)];simp
theorem tk_dr (l:List Keyed) (p k:Nat):(l.drop p).take k++l.drop (p+k)=l.drop p:=by
  rw [show l.drop (p+k)=(l.drop p).drop k by rw [List.drop_drop]];exact List.take_append_drop _ _
theorem hd_le {num:Keyed→Int} {a:Array Keyed} {p:Nat} (h:p<a.size) (s:Srt num (a.toList.drop p)) {x:Keyed} (hx:x∈a.toList.drop p):num a[p]≤num x:=by
  rw [drop_cons h] at s hx
  rcases List.mem_cons.mp hx with rfl | hx
  · exact Int.le_refl _
  · exact (List.pairwise_cons.mp s).1 x hx
theorem ext_all (a:Array Keyed) (p:Nat):(a.extract p a.size).toList=a.toList.drop p:=by simp [List.extract_eq_drop_take,List.take_of_length_le]
theorem ext_to (a:Array Keyed) (p k:Nat):(a.extract p (p+k)).toList=(a.toList.drop p).take k:=by simp [List.extract_eq_drop_take]
section
variable {F:List Keyed} {a b o:Array Keyed} {p q mg z:Nat} {st st0:SortSt}
def Bey (num:Keyed→Int) (a b:Array Keyed):Prop:=∀ y∈b.toList,∀ l,a[a.size-1]?=some l→num y<num l
theorem drop_last {a:Array Keyed} {p:Nat} (h:p+1=a.size):a.toList.drop p=[a[p]'(by omega)]:=by
  rw [drop_cons (by omega),List.drop_eq_nil_of_le (by simp;omega)]
theorem res_b (h:Md num F o.toList (a.toList.drop p) (b.toList.drop q)) (hp:p+1=a.size) (hb:Bey num a b):Res num F (o++b.extract q b.size++a.extract p a.size):=by
  have:=h.endB (fun y hy x hx=>by
    rw [drop_last hp] at hx
    rw [List.mem_singleton.mp hx]
    exact Int.le_of_lt (hb y (List.mem_of_mem_drop hy) _ (by rw [Array.getElem?_eq_getElem (by omega)];congr 2;omega)))
  unfold Res
  simpa only [Array.toList_append,ext_all] using this
theorem res_a (h:Md num F o.toList (a.toList.drop p) (b.toList.drop q)) (hq:q=b.size):Res num F (o++a.extract p a.size++b.extract q b.size):=by
  have e:b.toList.drop q=[]:=List.drop_eq_nil_of_le (by simp;omega)
  rw [e] at h
  unfold Res
  simp only [Array.toList_append,ext_all,e,List.append_nil]
  exact h.endA
theorem wp_lo3 {k kk:Nat} (hs:Sm st0 st) (hp:p+1<a.size) (hq:q<b.size) (h:Md num F o.toList (a.toList.drop p) (b.toList.drop q)) (hb:Bey num a b)
    (hx:∀ y∈b.toList.drop q,num (a[p]'(by omega))≤num y) (hz:z≤o.size):wpS (model prog w) A E s (lo3 a b o p q mg k kk) (PG num F a b z st0) st:=by
  unfold lo3
  refine wpS_bind (wp_elem (Array.getElem?_eq_getElem (by omega:p<a.size)) ?_)
  have h2:Md num F (o.push (a[p]'(by omega))).toList (a.toList.drop (p+1)) (b.toList.drop q):=by
    rw [Array.toList_push]
    exact Md.as (X1:=[a[p]'(by omega)]) (by rw [drop_cons (by omega:p<a.size)] at h;exact h) (fun x hx' y hy=>by rw [List.mem_singleton.mp hx'];exact hx y hy)
  by_cases e:p+1+1=a.size
  · rw [if_pos (by simpa using e)]
    exact wpS_pure (.inr ⟨hs,_,_,rfl,res_b h2 e hb⟩)
  · rw [if_neg (by simpa using e)]
    have g:∀ c,c=(none,o.push (a[p]'(by omega)),p+1,q,mg,k,kk)→IG num F a b z st0 c st:=fun c ec=>⟨hs,_,_,_,_,_,_,ec,⟨by omega,hq,h2⟩,by simp;omega⟩
    split
    · exact wpS_pure (.inl (g _ rfl))
    · exact wpS_pure (g _ rfl)
theorem wp_lo2 (L:Lts prog w A s κ num a₀) {k cb:Nat} (hk:kindOf st=κ) (ha:∀ x∈a.toList,x∈a₀.toList) (hbm:∀ x∈b.toList,x∈a₀.toList) (hs:Sm st0 st) (hp:p+1<a.size) (hq:q<b.size) (h:Md num F o.toList (a.toList.drop p) (b.toList.drop q)) (hb:Bey num a b)
    (hy:∀ x∈a.toList.drop p,num (b[q]'hq)≤num x) (hz:z≤o.size):wpS (model prog w) A E s (lo2 a b o p q mg k cb) (PG num F a b z st0) st:=by
  unfold lo2
  refine wpS_bind (wp_elem (Array.getElem?_eq_getElem hq) ?_)
  have h2:Md num F (o.push (b[q]'hq)).toList (a.toList.drop p) (b.toList.drop (q+1)):=by
    rw [Array.toList_push]
    exact Md.bs (Y1:=[b[q]'hq]) (by rw [drop_cons hq] at h;exact h) (fun x hx' y hy'=>by rw [List.mem_singleton.mp hx'];exact hy y hy')
  by_cases e:q+1=b.size
  · rw [if_pos (by simpa using e)]
    exact wpS_pure (.inr ⟨hs,_,_,rfl,res_a h2 e⟩)
  · rw [if_neg (by simpa using e)]
    refine wpS_bind (wp_elem (Array.getElem?_eq_getElem (by omega:p<a.size)) ?_)
    refine wpS_bind (wp_gal L (X:=b.toList.drop (q+1)) hk (ha _ (by simp)) (by simp) (fun i hi=>by simp) (fun x hx=>hbm x (List.mem_of_mem_drop hx)) h2.sy (by omega) fun kk h3 h4 h5=>?_)
    dsimp only
    have h6:Md num F (o.push (b[q]'hq)++b.extract (q+1) (q+1+kk)).toList (a.toList.drop p) (b.toList.drop (q+1+kk)):=by
      rw [Array.toList_append,ext_to]
      refine Md.bs (by rw [tk_dr];exact h2) fun y hy' x hx=>?_
      have:=h4 y hy'
      simp at this
      exact Int.le_trans (Int.le_of_lt this) (hd_le (by omega) h2.sx hx)
    have h8:∀ y∈b.toList.drop (q+1+kk),num (a[p]'(by omega))≤num y:=fun y hy'=>by
      have:=h5 y (by rw [List.drop_drop];exact hy')
      simpa using this
    by_cases hk0:kk>0
    · rw [if_pos hk0]
      by_cases e2:q+1+kk=b.size
      · rw [if_pos (by simpa using e2)]
        exact wpS_pure (.inr ⟨hs,_,_,rfl,res_a h6 e2⟩)
      · rw [if_neg (by simpa using e2)]
        exact wp_lo3 hs hp (by omega) h6 hb h8 (by simp;omega)
    · rw [if_neg hk0]
      have:kk=0:=by omega
      subst this
      exact wp_lo3 hs hp (by omega) h2 hb h8 (by simp;omega)
theorem wp_mg {M:Model} {g:Nat} {Q:Unit→SortSt→Prop} (hs:Sm st0 st) (h:∀ st',Sm st0 st'→Q () st'):wpS M A E s (mgSet' g) Q st:=by
  rw [mgSet'_eq]
  exact wpS_modify (h _ ⟨hs.a,hs.k,hs.p,hs.f⟩)
theorem wp_lo1 (L:Lts prog w A s κ num a₀) {ca cb:Nat} (hk:kindOf st0=κ) (ha:∀ x∈a.toList,x∈a₀.toList) (hbm:∀ x∈b.toList,x∈a₀.toList) (hs:Sm st0 st) (h:InL num F a b o p q) (hb:Bey num a b)
    (hz:z≤o.size):wpS (model prog w) A E s (lo1 a b o p q mg ca cb) (PG num F a b z st0) st:=by
  obtain ⟨hp,hq,h⟩:=h
  unfold lo1
  refine wpS_bind (wp_mg hs fun st' hs=>?_)
  have hk':kindOf st'=κ:=by rw [hs.k,hk]
  refine wpS_bind (wp_elem (Array.getElem?_eq_getElem hq) ?_)
  refine wpS_bind (wp_gal L (X:=a.toList.drop p) hk' (hbm _ (by simp)) (by simp) (fun i hi=>by simp) (fun x hx=>ha x (List.mem_of_mem_drop hx)) h.sx (by omega) fun k h3 h4 h5=>?_)
  dsimp only
  have h6:Md num F (o++a.extract p (p+k)).toList (a.toList.drop (p+k)) (b.toList.drop q):=by
    rw [Array.toList_append,ext_to]
    refine Md.as (by rw [tk_dr];exact h) fun x hx y hy'=>?_
    have:=h4 x hx
    simp at this
    exact Int.le_trans this (hd_le hq h.sy hy')
  have h8:∀ x∈a.toList.drop (p+k),num (b[q]'hq)≤num x:=fun x hx=>by
    have:=h5 x (by rw [List.drop_drop];exact hx)
    simp at this
    exact Int.le_of_lt this
  have h9:p+k<a.size:=by
    rcases Nat.lt_or_ge (p+k) a.size with g | g
    · exact g
    · have e:a[a.size-1]?=some (a[a.size-1]'(by omega)):=Array.getElem?_eq_getElem (by omega)
      have m:=h4 (a[a.size-1]'(by omega)) (by
        rw [List.take_of_length_le (by simp;omega)]
        refine List.mem_iff_getElem?.mpr ⟨a.size-1-p,?_⟩
        rw [List.getElem?_drop,show p+(a.size-1-p)=a.size-1 by omega]
        simpa using e)
      have m2:=hb (b[q]'hq) (by simp) _ e
      simp at m
      omega
  by_cases hk0:k>0
  · rw [if_pos hk0]
    by_cases e2:p+k+1=a.size
    · rw [if_pos (by simpa using e2)]
      exact wpS_pure (.inr ⟨hs,_,_,rfl,res_b h6 e2 hb⟩)
    · rw [if_neg (by simpa using e2),if_neg (by simp;omega)]
      exact wp_lo2 L hk' ha hbm hs (by omega) hq h6 hb h8 (by simp;omega)
  · rw [if_neg hk0]
    have:k=0:=by omega
    subst this
    exact wp_lo2 L hk' ha hbm hs hp hq h hb h8 hz
end
end
end Ts
namespace Ts
open PySem PyProof.Rows
abbrev S5:=Option (Array Keyed)×Array Keyed×Nat×Nat×Nat
abbrev S6:=Option (Array Keyed)×Array Keyed×Nat×Nat×Nat×Nat
def loC (a b:Array Keyed) (mg:Nat) (c:S6):StateT SortSt Sem (ForInStep S6):=do
  let y ← elem' b c.2.2.2.1
  let x ← elem' a c.2.2.1
  let t ← lt' y x
  match t with
  | some won=>
    if won=true then do
      let y ← elem' b c.2.2.2.1
      if (c.2.2.2.1+1==b.size)=true then pure (.done (some (c.2.1.push y++a.extract c.2.2.1 a.size++b.extract (c.2.2.2.1+1) b.size),c.2.1.push y,c.2.2.1,c.2.2.2.1+1,0,c.2.2.2.2.2+1))
      else if c.2.2.2.2.2+1≥mg then pure (.done (none,c.2.1.push y,c.2.2.1,c.2.2.2.1+1,0,c.2.2.2.2.2+1))
      else pure (.yield (none,c.2.1.push y,c.2.2.1,c.2.2.2.1+1,0,c.2.2.2.2.2+1))
    else do
      let x ← elem' a c.2.2.1
      if (c.2.2.1+1+1==a.size)=true then pure (.done (some (c.2.1.push x++b.extract c.2.2.2.1 b.size++a.extract (c.2.2.1+1) a.size),c.2.1.push x,c.2.2.1+1,c.2.2.2.1,c.2.2.2.2.1+1,0))
      else if c.2.2.2.2.1+1≥mg then pure (.done (none,c.2.1.push x,c.2.2.1+1,c.2.2.2.1,c.2.2.2.2.1+1,0))
      else pure (.yield (none,c.2.1.push x,c.2.2.1+1,c.2.2.2.1,c.2.2.2.2.1+1,0))
  | _=>pure (.done (some (c.2.1++a.extract c.2.2.1 a.size++b.extract c.2.2.2.1 b.size),c.2.1,c.2.2.1,c.2.2.2.1,c.2.2.2.2.1,c.2.2.2.2.2))
def loB (a b:Array Keyed) (c:S5):StateT SortSt Sem (ForInStep S5):=do
  let d ← forIn [0:a.size+b.size] ((none,c.2.1,c.2.2.1,c.2.2.2.1,0,0):S6) fun _ d=>loC a b c.2.2.2.2 d
  match d.1 with
  | some r=>pure (.done (some r,d.2.1,d.2.2.1,d.2.2.2.1,c.2.2.2.2))
  | none=>do
    liftM (rule "list.sort.gallop")
    let e ← forIn [0:a.size+b.size] ((none,d.2.1,d.2.2.1,d.2.2.2.1,c.2.2.2.2+1,d.2.2.2.2.1,d.2.2.2.2.2):S7) fun _ e=>
      if e.2.2.2.2.1>1 then lo1 a b e.2.1 e.2.2.1 e.2.2.2.1 (e.2.2.2.2.1-1) e.2.2.2.2.2.1 e.2.2.2.2.2.2 else lo1 a b e.2.1 e.2.2.1 e.2.2.2.1 e.2.2.2.2.1 e.2.2.2.2.2.1 e.2.2.2.2.2.2
    match e.1 with
    | some r=>pure (.done (some r,e.2.1,e.2.2.1,e.2.2.2.1,e.2.2.2.2.1))
    | none=>do
      mgSet' (e.2.2.2.2.1+1)
      pure (.yield (none,e.2.1,e.2.2.1,e.2.2.2.1,e.2.2.2.2.1+1))
def lo0 (a b:Array Keyed):StateT SortSt Sem (Array Keyed):=do
  liftM (rule "list.sort.merge-lo")
  let y ← elem' b 0
  if (1==b.size)=true then pure (#[y]++a.extract 0 a.size++b.extract 1 b.size)
  else if (0+1==a.size)=true then pure (#[y]++b.extract 1 b.size++a.extract 0 a.size)
  else do
    let z ← get
    let c ← forIn [0:a.size+b.size] ((none,#[y],0,1,gallopOf z):S5) fun _ c=>loB a b c
    match c.1 with
    | some r=>pure r
    | none=>unsupported "internal:list.sort.merge-bound"
theorem lo_is (a b:Array Keyed):mergeLo' a b=lo0 a b:=by
  rw [mergeLo'_eq]
  unfold lo0
  dsimp only
  refine congrArg _ (funext fun _=>congrArg _ (funext fun y=>?_))
  refine ite_congr rfl (fun _=>rfl) fun _=>ite_congr rfl (fun _=>rfl) fun _=>congrArg _ (funext fun z=>?_)
  congr 1
  · congr 1
    funext x c
    unfold loB
    congr 1
    funext d
    obtain ⟨d1,d2,d3,d4,d5,d6⟩:=d
    cases d1 with
    | some r=>rfl
    | none=>
      dsimp only
      congr 1
      funext _
      congr 1
      funext e
      obtain ⟨e1,e2⟩:=e
      cases e1<;>rfl
  · funext c
    obtain ⟨c1,c2⟩:=c
    cases c1<;>rfl
section
variable {prog:Program} {w:World} {A:Around} {E:Value→Shared→Prop} {s:Shared} {a₀:Array Keyed} {κ:SortKind} {num:Keyed→Int} {a b:Array Keyed} {st:SortSt}
theorem wp_mlo (L:Lts prog w A s κ num a₀) {Q:Array Keyed→SortSt→Prop} (hk:kindOf st=κ) (ha:∀ x∈a.toList,x∈a₀.toList) (hbm:∀ x∈b.toList,x∈a₀.toList)
    (sa:Srt num a.toList) (sb:Srt num b.toList) (za:0<a.size) (zb:0<b.size) (hf:∀ x∈a.toList,num (b[0]'zb)≤num x) (hb:Bey num a b)
    (h:∀ r st',Sm st st'→Res num (a.toList++b.toList) r→Q r st'):wpS (model prog w) A E s (mergeLo' a b) Q st:=by
  rw [lo_is]
  unfold lo0
  refine wpS_bind (wpS_lift (wpAny_rule ⟨rfl,?_⟩))
  refine wpS_bind (wp_elem (Array.getElem?_eq_getElem zb) ?_)
  have h0:Md num (a.toList++b.toList) (#[b[0]'zb]:Array Keyed).toList (a.toList.drop 0) (b.toList.drop 1):=by
    have e0:[b[0]'zb]++b.toList.drop 1=b.toList:=by
      have:=drop_cons (p:=0) zb
      simpa using this.symm
    refine Md.bs (o:=[]) (Y1:=[b[0]'zb]) ⟨?_,List.Pairwise.nil,by simpa using sa,?_,by simp,by simp⟩ fun y hy x hx=>?_
    · rw [e0];simp
    · rw [e0];exact sb
    · rw [List.mem_singleton.mp hy];exact hf x (by simpa using hx)
  by_cases e1:1=b.size
  · rw [if_pos (by simpa using e1)]
    exact wpS_pure (h _ _ Sm.rfl (res_a h0 e1))
  rw [if_neg (by simpa using e1)]
  by_cases e2:0+1=a.size
  · rw [if_pos (by simpa using e2)]
    exact wpS_pure (h _ _ Sm.rfl (res_b h0 e2 hb))
  rw [if_neg (by simpa using e2)]
  refine wpS_bind (wpS_get ?_)
  refine wpS_bind (wpS_mono (wpS_forRange (I:=fun x c st'=>Sm st st'∧∃ o p q mg,c=(none,o,p,q,mg)∧InL num (a.toList++b.toList) a b o p q∧x+1≤o.size)
    (Q:=fun c st'=>Sm st st'∧∃ r d,c=(some r,d)∧Res num (a.toList++b.toList) r) ?step ?fin ⟨Sm.rfl,_,_,_,_,rfl,⟨by omega,by omega,h0⟩,by simp⟩) ?post)
  case post=>
    rintro c st' ⟨hs,r,d,rfl,hr⟩
    exact wpS_pure (h _ _ hs hr)
  case fin=>
    rintro c st' ⟨hs,o,p,q,mg,rfl,⟨g1,g2,g3⟩,g4⟩
    have:=g3.pm.length_eq
    simp at this
    omega
  case step=>
    rintro x c st' _ hx ⟨hs,o,p,q,mg,rfl,hI,hz⟩
    unfold loB
    dsimp only
    refine wpS_bind (wpS_mono (wpS_forRange (I:=fun y c st''=>Sm st st''∧∃ o p q ca cb,c=(none,o,p,q,ca,cb)∧InL num (a.toList++b.toList) a b o p q∧x+1+min y 1≤o.size)
      (Q:=fun c st''=>Sm st st''∧((∃ o p q ca cb,c=(none,o,p,q,ca,cb)∧InL num (a.toList++b.toList) a b o p q∧x+2≤o.size)∨∃ r d,c=(some r,d)∧Res num (a.toList++b.toList) r)) ?s1 ?f1 ⟨hs,_,_,_,_,_,rfl,hI,by omega⟩) ?p1)
    case f1=>
      rintro c st'' ⟨hs,o,p,q,ca,cb,rfl,hI,hz⟩
      exact ⟨hs,.inl ⟨o,p,q,ca,cb,rfl,hI,by omega⟩⟩
    case s1=>
      rintro y c st'' _ hy ⟨hs,o,p,q,ca,cb,rfl,⟨hp,hq,hM⟩,hz⟩
      unfold loC
      dsimp only
      have hp':p<a.size:=by omega
      refine wpS_bind (wp_elem (Array.getElem?_eq_getElem hq) (wpS_bind (wp_elem (Array.getElem?_eq_getElem hp') (wpS_bind (wp_lt L (by rw [hs.k,hk]) (hbm _ (by simp)) (ha _ (by simp)) ?_)))))
      by_cases hw:num (b[q]'hq)<num (a[p]'hp')
      · simp only [hw,decide_true,if_true]
        refine wpS_bind (wp_elem (Array.getElem?_eq_getElem hq) ?_)
        have h2:Md num (a.toList++b.toList) (o.push (b[q]'hq)).toList (a.toList.drop p) (b.toList.drop (q+1)):=by
          rw [Array.toList_push]
          exact Md.bs (Y1:=[b[q]'hq]) (by rw [drop_cons hq] at hM;exact hM) (fun y hy' x hx'=>by rw [List.mem_singleton.mp hy'];exact Int.le_trans (Int.le_of_lt hw) (hd_le hp' hM.sx hx'))
        by_cases e:q+1=b.size
        · rw [if_pos (by simpa using e)]
          exact wpS_pure ⟨hs,.inr ⟨_,_,rfl,res_a h2 e⟩⟩
        · rw [if_neg (by simpa using e)]
          split
          · exact wpS_pure ⟨hs,.inl ⟨_,_,_,_,_,rfl,⟨hp,by omega,h2⟩,by simp;omega⟩⟩
          · exact wpS_pure ⟨hs,_,_,_,_,_,rfl,⟨hp,by omega,h2⟩,by simp;omega⟩
      · simp only [hw,decide_false,Bool.false_eq_true,if_false]
        refine wpS_bind (wp_elem (Array.getElem?_eq_getElem hp') ?_)
        have h2:Md num (a.toList++b.toList) (o.push (a[p]'hp')).toList (a.toList.drop (p+1)) (b.toList.drop q):=by
          rw [Array.toList_push]
          exact Md.as (X1:=[a[p]'hp']) (by rw [drop_cons hp'] at hM;exact hM) (fun x hx' y hy'=>by rw [List.mem_singleton.mp hx'];exact Int.le_trans (Int.not_lt.mp hw) (hd_le hq hM.sy hy'))
        by_cases e:p+1+1=a.size
        · rw [if_pos (by simpa using e)]
          exact wpS_pure ⟨hs,.inr ⟨_,_,rfl,res_b h2 e hb⟩⟩
        · rw [if_neg (by simpa using e)]
          split
          · exact wpS_pure ⟨hs,.inl ⟨_,_,_,_,_,rfl,⟨by omega,hq,h2⟩,by simp;omega⟩⟩
          · exact wpS_pure ⟨hs,_,_,_,_,_,rfl,⟨by omega,hq,h2⟩,by simp;omega⟩
    case p1=>
      rintro c st'' ⟨hs,⟨o,p,q,ca,cb,rfl,hI,hz⟩ | ⟨r,d,rfl,hr⟩⟩
      · dsimp only
        refine wpS_bind (wpS_lift (wpAny_rule ⟨rfl,?_⟩))
        refine wpS_bind (wpS_mono (wpS_forRange (I:=fun y c st3=>IG num (a.toList++b.toList) a b (x+2) st c st3)
          (Q:=fun c st3=>IG num (a.toList++b.toList) a b (x+2) st c st3∨RG num (a.toList++b.toList) st c st3) ?s2 ?f2 ⟨hs,_,_,_,_,_,_,rfl,hI,hz⟩) ?p2)
        case f2=>exact fun c st3 h=>.inl h
        case s2=>
          rintro y c st3 _ hy ⟨hs,o,p,q,mg,ca,cb,rfl,hI,hz⟩
          have go:∀ g,wpS (model prog w) A E s (lo1 a b o p q g ca cb) (PG num (a.toList++b.toList) a b (x+2) st) st3:=fun g=>wp_lo1 L hk ha hbm hs hI hb hz
          exact wpS_mono (m:=if mg>1 then lo1 a b o p q (mg-1) ca cb else lo1 a b o p q mg ca cb) (by split<;>exact go _) fun r st' h=>by cases r<;>exact h
        case p2=>
          rintro c st3 (⟨hs,o,p,q,mg,ca,cb,rfl,hI,hz⟩ | ⟨hs,r,d,rfl,hr⟩)
          · dsimp only
            exact wpS_bind (wp_mg hs fun st4 hs=>wpS_pure ⟨hs,_,_,_,_,rfl,hI,hz⟩)
          · exact wpS_pure ⟨hs,_,_,rfl,hr⟩
      · exact wpS_pure ⟨hs,_,_,rfl,hr⟩
end
end Ts
namespace Ts
open PySem PyProof.Rows
section
variable {prog:Program} {w:World} {A:Around} {E:Value→Shared→Prop} {s:Shared} {a₀:Array Keyed} {κ:SortKind} {num:Keyed→Int} {a b o:Array Keyed} {st st0:SortSt} {F:List Keyed} {m n mg z:Nat}
def mergeHi':Array Keyed→Array Keyed→StateT SortSt Sem (Array Keyed):=sortPriv% PySem.Builtin.mergeHi
theorem mergeHi'_eq (a b:Array Keyed):mergeHi' a b=(do
  rule "list.sort.merge-hi"
  let tot:=a.size+b.size
  let fa (o:Array Keyed) (m n:Nat):=a.extract 0 m++b.extract 0 n++o.reverse
  let fb (o:Array Keyed) (m n:Nat):=b.extract 0 n++a.extract 0 m++o.reverse
  let mut m:=a.size-1
  let mut n:=b.size
  let mut o:Array Keyed:=#[← elem' a m]
  if m==0 then return fa o m n
  if n==1 then return fb o m n
  let mut mg:=gallopOf (← get)
  for _ in [0:tot] do
    let mut ca:=0
    let mut cb:=0
    for _ in [0:tot] do
      let some won ← lt' (← elem' b (n-1)) (← elem' a (m-1)) | return fa o m n
      if won then
        m:=m-1;o:=o.push (← elem' a m);ca:=ca+1;cb:=0
        if m==0 then return fa o m n
        if ca≥mg then break
      else
        n:=n-1;o:=o.push (← elem' b n);cb:=cb+1;ca:=0
        if n==1 then return fb o m n
        if cb≥mg then break
    rule "list.sort.gallop"
    mg:=mg+1
    for _ in [0:tot] do
      if mg>1 then mg:=mg-1
      mgSet' mg
      let some e ← gallop' false (← elem' b (n-1)) a 0 m (m-1) | return fa o m n
      let k:=m-e
      ca:=k
      if k>0 then
        o:=o++(a.extract e m).reverse;m:=e
        if m==0 then return fa o m n
      n:=n-1;o:=o.push (← elem' b n)
      if n==1 then return fb o m n
      let some e ← gallop' true (← elem' a (m-1)) b 0 n (n-1) | return fa o m n
      let k:=n-e
      cb:=k
      if k>0 then
        o:=o++(b.extract e n).reverse;n:=e
        if n==1 then return fb o m n
        if n==0 then return fa o m n
      m:=m-1;o:=o.push (← elem' a m)
      if m==0 then return fa o m n
      if ca<7&&cb<7 then break
    mg:=mg+1
    mgSet' mg
  unsupported "internal:list.sort.merge-bound"):=rfl
abbrev R7:=Option (Array Keyed)×Nat×Nat×Array Keyed×Nat×Nat×Nat
def hi3 (a b o:Array Keyed) (m n mg k kk:Nat):StateT SortSt Sem (ForInStep R7):=do
  let x ← elem' a (m-1)
  if (m-1==0)=true then pure (.done (some (a.extract 0 (m-1)++b.extract 0 n++(o.push x).reverse),m-1,n,o.push x,mg,k,kk))
  else if (decide (k<7)&&decide (kk<7))=true then pure (.done (none,m-1,n,o.push x,mg,k,kk))
  else pure (.yield (none,m-1,n,o.push x,mg,k,kk))
def hi2 (a b o:Array Keyed) (m n mg k cb:Nat):StateT SortSt Sem (ForInStep R7):=do
  let y ← elem' b (n-1)
  if (n-1==1)=true then pure (.done (some (b.extract 0 (n-1)++a.extract 0 m++(o.push y).reverse),m,n-1,o.push y,mg,k,cb))
  else do
    let x ← elem' a (m-1)
    let t ← gallop' true x b 0 (n-1) (n-1-1)
    match t with
    | some e=>
      if n-1-e>0 then
        if (e==1)=true then pure (.done (some (b.extract 0 e++a.extract 0 m++(o.push y++(b.extract e (n-1)).reverse).reverse),m,e,o.push y++(b.extract e (n-1)).reverse,mg,k,n-1-e))
        else if (e==0)=true then pure (.done (some (a.extract 0 m++b.extract 0 e++(o.push y++(b.extract e (n-1)).reverse).reverse),m,e,o.push y++(b.extract e (n-1)).reverse,mg,k,n-1-e))
        else hi3 a b (o.push y++(b.extract e (n-1)).reverse) m e mg k (n-1-e)
      else hi3 a b (o.push y) m (n-1) mg k (n-1-e)
    | _=>pure (.done (some (a.extract 0 m++b.extract 0 (n-1)++(o.push y).reverse),m,n-1,o.push y,mg,k,cb))
def hi1 (a b o:Array Keyed) (m n mg ca cb:Nat):StateT SortSt Sem (ForInStep R7):=do
  mgSet' mg
  let y ← elem' b (n-1)
  let t ← gallop' false y a 0 m (m-1)
  match t with
  | some e=>
    if m-e>0 then
      if (e==0)=true then pure (.done (some (a.extract 0 e++b.extract 0 n++(o++(a.extract e m).reverse).reverse),e,n,o++(a.extract e m).reverse,mg,m-e,cb))
      else hi2 a b (o++(a.extract e m).reverse) e n mg (m-e) cb
    else hi2 a b o m n mg (m-e) cb
  | _=>pure (.done (some (a.extract 0 m++b.extract 0 n++o.reverse),m,n,o,mg,ca,cb))
def ng (num:Keyed→Int) (k:Keyed):Int:=- num k
abbrev MdH (num:Keyed→Int) (F:List Keyed) (a b o:Array Keyed) (m n:Nat):Prop:=Md (ng num) F o.toList (a.toList.take m).reverse (b.toList.take n).reverse
theorem srt_rev {l:List Keyed}:Srt (ng num) l.reverse↔Srt num l:=by
  unfold Srt
  rw [List.pairwise_reverse]
  constructor
  · intro h;exact h.imp fun g=>by unfold ng at g;omega
  · intro h;exact h.imp fun g=>by unfold ng;omega
theorem take_snoc {a:Array Keyed} {m:Nat} (h:0<m) (hm:m≤a.size):(a.toList.take m).reverse=a[m-1]'(by omega)::(a.toList.take (m-1)).reverse:=by
  obtain ⟨k,rfl⟩:∃ k,m=k+1:=⟨m-1,by omega⟩
  rw [List.take_succ_eq_append_getElem (by simp;omega)]
  simp
theorem tk_sp {l:List Keyed} {e m:Nat} (h:e≤m):(l.take m).reverse=((l.take m).drop e).reverse++(l.take e).reverse:=by
  rw [← List.reverse_append]
  congr 1
  have:=List.take_append_drop e (l.take m)
  rw [List.take_take,Nat.min_eq_left h] at this
  exact this.symm
theorem ext_rv (a:Array Keyed) (e m:Nat):((a.extract e m).reverse).toList=((a.toList.take m).drop e).reverse:=by
  simp [List.extract_eq_drop_take,List.drop_take]
theorem tl_le {a:Array Keyed} {m:Nat} (h:0<m) (hm:m≤a.size) (t:Srt (ng num) (a.toList.take m).reverse) {x:Keyed} (hx:x∈a.toList.take m):num x≤num (a[m-1]'(by omega)):=by
  have hx':x∈(a.toList.take m).reverse:=List.mem_reverse.mpr hx
  rw [take_snoc h hm] at t hx'
  rcases List.mem_cons.mp hx' with rfl | hx'
  · exact Int.le_refl _
  · have:=(List.pairwise_cons.mp t).1 x hx'
    unfold ng at this;omega
theorem res_h {l:List Keyed} {r:Array Keyed} (h:l.Perm F∧Srt (ng num) l) (e:r.toList=l.reverse):Res num F r:=by
  refine ⟨by rw [e];exact (List.reverse_perm l).trans h.1,?_⟩
  rw [e]
  exact srt_rev.mp (by rw [List.reverse_reverse];exact h.2)
theorem res_h0 (h:MdH num F a b o m n) (e:m=0):Res num F (a.extract 0 m++b.extract 0 n++o.reverse):=by
  subst e
  exact res_h (h.endX fun x hx=>by simp at hx) (by simp)
def Fst (num:Keyed→Int) (a b:Array Keyed):Prop:=∀ x∈a.toList,∀ f,b[0]?=some f→num f<num x
theorem res_h1 (h:MdH num F a b o m n) (e:n=1) (hb:0<b.size) (hf:Fst num a b):Res num F (b.extract 0 n++a.extract 0 m++o.reverse):=by
  subst e
  refine res_h (h.endX fun x hx y hy=>?_) (by simp)
  rw [take_snoc (by omega) (by omega)] at hy
  simp at hy
  have:=hf x (List.mem_of_mem_take (List.mem_reverse.mp hx)) (b[0]'hb) (Array.getElem?_eq_getElem hb)
  subst hy
  unfold ng;omega
def IH (num:Keyed→Int) (F:List Keyed) (a b:Array Keyed) (z:Nat) (st:SortSt) (c:R7) (st':SortSt):Prop:=
  Sm st st'∧∃ m n o mg ca cb,c=(none,m,n,o,mg,ca,cb)∧(1≤m∧m≤a.size∧2≤n∧n≤b.size∧MdH num F a b o m n)∧z≤o.size
def RH (num:Keyed→Int) (F:List Keyed) (st:SortSt) (c:R7) (st':SortSt):Prop:=Sm st st'∧∃ r d,c=(some r,d)∧Res num F r
def PH (num:Keyed→Int) (F:List Keyed) (a b:Array Keyed) (z:Nat) (st:SortSt) (r:ForInStep R7) (st':SortSt):Prop:=match r with
  | .done c=>IH num F a b z st c st'∨RH num F st c st'
  | .yield c=>IH num F a b z st c st'
theorem MdH.pa (h:MdH num F a b o m n) (h1:0<m) (h2:m≤a.size) (k:∀ y∈b.toList.take n,num y≤num (a[m-1]'(by omega))):MdH num F a b (o.push (a[m-1]'(by omega))) (m-1) n:=by
  unfold MdH
  rw [Array.toList_push]
  unfold MdH at h
  rw [take_snoc h1 h2] at h
  exact Md.as (X1:=[a[m-1]'(by omega)]) h fun x hx y hy=>by
    rw [List.mem_singleton.mp hx]
    have:=k y (List.mem_reverse.mp hy)
    unfold ng;omega
theorem MdH.pb (h:MdH num F a b o m n) (h1:0<n) (h2:n≤b.size) (k:∀ x∈a.toList.take m,num x≤num (b[n-1]'(by omega))):MdH num F a b (o.push (b[n-1]'(by omega))) m (n-1):=by
  unfold MdH
  rw [Array.toList_push]
  unfold MdH at h
  rw [take_snoc h1 h2] at h
  exact Md.bs (Y1:=[b[n-1]'(by omega)]) h fun x hx y hy=>by
    rw [List.mem_singleton.mp hx]
    have:=k y (List.mem_reverse.mp hy)
    unfold ng;omega
theorem wp_hi3 {k kk:Nat} (hs:Sm st0 st) (h1:1≤m) (h2:m≤a.size) (h3:2≤n) (h4:n≤b.size) (h:MdH num F a b o m n)
    (hx:∀ y∈b.toList.take n,num y≤num (a[m-1]'(by omega))) (hz:z≤o.size):wpS (model prog w) A E s (hi3 a b o m n mg k kk) (PH num F a b z st0) st:=by
  unfold hi3
  refine wpS_bind (wp_elem (Array.getElem?_eq_getElem (by omega:m-1<a.size)) ?_)
  have g:=h.pa (by omega) h2 hx
  by_cases e:m-1=0
  · rw [if_pos (by simpa using e)]
    exact wpS_pure (.inr ⟨hs,_,_,rfl,res_h0 g e⟩)
  · rw [if_neg (by simpa using e)]
    have g:∀ c,c=(none,m-1,n,o.push (a[m-1]'(by omega)),mg,k,kk)→IH num F a b z st0 c st:=fun c ec=>⟨hs,_,_,_,_,_,_,ec,⟨by omega,by omega,h3,h4,g⟩,by simp;omega⟩
    split
    · exact wpS_pure (.inl (g _ rfl))
    · exact wpS_pure (g _ rfl)
theorem wp_hi2 (L:Lts prog w A s κ num a₀) {k cb:Nat} (hk:kindOf st=κ) (ha:∀ x∈a.toList,x∈a₀.toList) (hbm:∀ x∈b.toList,x∈a₀.toList) (hs:Sm st0 st) (h1:1≤m) (h2:m≤a.size) (h3:2≤n) (h4:n≤b.size) (h:MdH num F a b o m n) (hf:Fst num a b)
    (hy:∀ x∈a.toList.take m,num x≤num (b[n-1]'(by omega))) (hz:z≤o.size):wpS (model prog w) A E s (hi2 a b o m n mg k cb) (PH num F a b z st0) st:=by
  unfold hi2
  refine wpS_bind (wp_elem (Array.getElem?_eq_getElem (by omega:n-1<b.size)) ?_)
  have g:=h.pb (by omega) h4 hy
  by_cases e:n-1=1
  · rw [if_pos (by simpa using e)]
    exact wpS_pure (.inr ⟨hs,_,_,rfl,res_h1 g e (by omega) hf⟩)
  · rw [if_neg (by simpa using e)]
    refine wpS_bind (wp_elem (Array.getElem?_eq_getElem (by omega:m-1<a.size)) ?_)
    refine wpS_bind (wp_gal L (X:=b.toList.take (n-1)) hk (ha _ (by simp)) (by simp;omega) (fun i hi=>by simp [List.getElem?_take,hi]) (fun x hx=>hbm x (List.mem_of_mem_take hx)) (srt_rev.mp g.sy) (by omega) fun e' h5 h6 h7=>?_)
    dsimp only
    have h8:MdH num F a b (o.push (b[n-1]'(by omega))++(b.extract e' (n-1)).reverse) m e':=by
      unfold MdH
      rw [Array.toList_append,ext_rv]
      unfold MdH at g
      rw [tk_sp h5] at g
      refine Md.bs g fun y hy' x hx=>?_
      have q1:=h7 y (List.mem_reverse.mp hy')
      have q2:=tl_le (by omega) h2 h.sx (List.mem_reverse.mp hx)
      simp at q1
      unfold ng;omega
    have h9:∀ y∈b.toList.take e',num y≤num (a[m-1]'(by omega)):=fun y hy'=>by
      have:=h6 y (by rw [List.take_take,Nat.min_eq_left h5];exact hy')
      simp at this
      omega
    have hf0:=hf (a[m-1]'(by omega)) (by simp) (b[0]'(by omega)) (Array.getElem?_eq_getElem (by omega))
    have he:1≤e':=by
      rcases Nat.eq_zero_or_pos e' with q | q
      · subst q
        have:=h7 (b[0]'(by omega)) (by
          rw [List.drop_zero]
          refine List.mem_iff_getElem?.mpr ⟨0,?_⟩
          rw [List.getElem?_take,if_pos (by omega)]
          simp)
        simp at this
        omega
      · exact q
    by_cases hk0:n-1-e'>0
    · rw [if_pos hk0]
      by_cases e2:e'=1
      · rw [if_pos (by simpa using e2)]
        exact wpS_pure (.inr ⟨hs,_,_,rfl,res_h1 h8 e2 (by omega) hf⟩)
      · rw [if_neg (by simpa using e2),if_neg (by simp;omega)]
        exact wp_hi3 hs h1 h2 (by omega) (by omega) h8 h9 (by simp;omega)
    · rw [if_neg hk0]
      have:e'=n-1:=by omega
      subst this
      exact wp_hi3 hs h1 h2 (by omega) (by omega) g h9 (by simp;omega)
theorem wp_hi1 (L:Lts prog w A s κ num a₀) {ca cb:Nat} (hk:kindOf st0=κ) (ha:∀ x∈a.toList,x∈a₀.toList) (hbm:∀ x∈b.toList,x∈a₀.toList) (hs:Sm st0 st) (h1:1≤m) (h2:m≤a.size) (h3:2≤n) (h4:n≤b.size) (h:MdH num F a b o m n) (hf:Fst num a b)
    (hz:z≤o.size):wpS (model prog w) A E s (hi1 a b o m n mg ca cb) (PH num F a b z st0) st:=by
  unfold hi1
  refine wpS_bind (wp_mg hs fun st' hs=>?_)
  have hk':kindOf st'=κ:=by rw [hs.k,hk]
  refine wpS_bind (wp_elem (Array.getElem?_eq_getElem (by omega:n-1<b.size)) ?_)
  refine wpS_bind (wp_gal L (X:=a.toList.take m) hk' (hbm _ (by simp)) (by simp;omega) (fun i hi=>by simp [List.getElem?_take,hi]) (fun x hx=>ha x (List.mem_of_mem_take hx)) (srt_rev.mp h.sx) (by omega) fun e' h5 h6 h7=>?_)
  dsimp only
  have h8:MdH num F a b (o++(a.extract e' m).reverse) e' n:=by
    unfold MdH
    rw [Array.toList_append,ext_rv]
    unfold MdH at h
    rw [tk_sp h5] at h
    refine Md.as h fun x hx y hy'=>?_
    have q1:=h7 x (List.mem_reverse.mp hx)
    have q2:=tl_le (by omega) h4 h.sy (List.mem_reverse.mp hy')
    simp at q1
    unfold ng;omega
  have h9:∀ x∈a.toList.take e',num x≤num (b[n-1]'(by omega)):=fun x hx=>by
    have:=h6 x (by rw [List.take_take,Nat.min_eq_left h5];exact hx)
    simp at this
    omega
  by_cases hk0:m-e'>0
  · rw [if_pos hk0]
    by_cases e2:e'=0
    · rw [if_pos (by simpa using e2)]
      exact wpS_pure (.inr ⟨hs,_,_,rfl,res_h0 h8 e2⟩)
    · rw [if_neg (by simpa using e2)]
      exact wp_hi2 L hk' ha hbm hs (by omega) (by omega) h3 h4 h8 hf h9 (by simp;omega)
  · rw [if_neg hk0]
    have:e'=m:=by omega
    subst this
    exact wp_hi2 L hk' ha hbm hs h1 h2 h3 h4 h hf h9 hz
end
end Ts
namespace Ts
open PySem PyProof.Rows
abbrev R5:=Option (Array Keyed)×Nat×Nat×Array Keyed×Nat
abbrev R6:=Option (Array Keyed)×Nat×Nat×Array Keyed×Nat×Nat
def hiC (a b:Array Keyed) (mg:Nat) (c:R6):StateT SortSt Sem (ForInStep R6):=do
  let y ← elem' b (c.2.2.1-1)
  let x ← elem' a (c.2.1-1)
  let t ← lt' y x
  match t with
  | some won=>
    if won=true then do
      let x ← elem' a (c.2.1-1)
      if (c.2.1-1==0)=true then pure (.done (some (a.extract 0 (c.2.1-1)++b.extract 0 c.2.2.1++(c.2.2.2.1.push x).reverse),c.2.1-1,c.2.2.1,c.2.2.2.1.push x,c.2.2.2.2.1+1,0))
      else if c.2.2.2.2.1+1≥mg then pure (.done (none,c.2.1-1,c.2.2.1,c.2.2.2.1.push x,c.2.2.2.2.1+1,0))
      else pure (.yield (none,c.2.1-1,c.2.2.1,c.2.2.2.1.push x,c.2.2.2.2.1+1,0))
    else do
      let y ← elem' b (c.2.2.1-1)
      if (c.2.2.1-1==1)=true then pure (.done (some (b.extract 0 (c.2.2.1-1)++a.extract 0 c.2.1++(c.2.2.2.1.push y).reverse),c.2.1,c.2.2.1-1,c.2.2.2.1.push y,0,c.2.2.2.2.2+1))
      else if c.2.2.2.2.2+1≥mg then pure (.done (none,c.2.1,c.2.2.1-1,c.2.2.2.1.push y,0,c.2.2.2.2.2+1))
      else pure (.yield (none,c.2.1,c.2.2.1-1,c.2.2.2.1.push y,0,c.2.2.2.2.2+1))
  | _=>pure (.done (some (a.extract 0 c.2.1++b.extract 0 c.2.2.1++c.2.2.2.1.reverse),c.2.1,c.2.2.1,c.2.2.2.1,c.2.2.2.2.1,c.2.2.2.2.2))
def hiB (a b:Array Keyed) (c:R5):StateT SortSt Sem (ForInStep R5):=do
  let d ← forIn [0:a.size+b.size] ((none,c.2.1,c.2.2.1,c.2.2.2.1,0,0):R6) fun _ d=>hiC a b c.2.2.2.2 d
  match d.1 with
  | some r=>pure (.done (some r,d.2.1,d.2.2.1,d.2.2.2.1,c.2.2.2.2))
  | none=>do
    liftM (rule "list.sort.gallop")
    let e ← forIn [0:a.size+b.size] ((none,d.2.1,d.2.2.1,d.2.2.2.1,c.2.2.2.2+1,d.2.2.2.2.1,d.2.2.2.2.2):R7) fun _ e=>
      if e.2.2.2.2.1>1 then hi1 a b e.2.2.2.1 e.2.1 e.2.2.1 (e.2.2.2.2.1-1) e.2.2.2.2.2.1 e.2.2.2.2.2.2 else hi1 a b e.2.2.2.1 e.2.1 e.2.2.1 e.2.2.2.2.1 e.2.2.2.2.2.1 e.2.2.2.2.2.2
    match e.1 with
    | some r=>pure (.done (some r,e.2.1,e.2.2.1,e.2.2.2.1,e.2.2.2.2.1))
    | none=>do
      mgSet' (e.2.2.2.2.1+1)
      pure (.yield (none,e.2.1,e.2.2.1,e.2.2.2.1,e.2.2.2.2.1+1))
def hi0 (a b:Array Keyed):StateT SortSt Sem (Array Keyed):=do
  liftM (rule "list.sort.merge-hi")
  let x ← elem' a (a.size-1)
  if (a.size-1==0)=true then pure (a.extract 0 (a.size-1)++b.extract 0 b.size++(#[x]:Array Keyed).reverse)
  else if (b.size==1)=true then pure (b.extract 0 b.size++a.extract 0 (a.size-1)++(#[x]:Array Keyed).reverse)
  else do
    let z ← get
    let c ← forIn [0:a.size+b.size] ((none,a.size-1,b.size,#[x],gallopOf z):R5) fun _ c=>hiB a b c
    match c.1 with
    | some r=>pure r
    | none=>unsupported "internal:list.sort.merge-bound"
theorem hi_is (a b:Array Keyed):mergeHi' a b=hi0 a b:=by
  rw [mergeHi'_eq]
  unfold hi0
  dsimp only
  refine congrArg _ (funext fun _=>congrArg _ (funext fun y=>?_))
  refine ite_congr rfl (fun _=>rfl) fun _=>ite_congr rfl (fun _=>rfl) fun _=>congrArg _ (funext fun z=>?_)
  congr 1
  · congr 1
    funext x c
    unfold hiB
    congr 1
    funext d
    obtain ⟨d1,d2,d3,d4,d5,d6⟩:=d
    cases d1 with
    | some r=>rfl
    | none=>
      dsimp only
      congr 1
      funext _
      congr 1
      funext e
      obtain ⟨e1,e2⟩:=e
      cases e1<;>rfl
  · funext c
    obtain ⟨c1,c2⟩:=c
    cases c1<;>rfl
section
variable {prog:Program} {w:World} {A:Around} {E:Value→Shared→Prop} {s:Shared} {a₀:Array Keyed} {κ:SortKind} {num:Keyed→Int} {a b:Array Keyed} {st:SortSt}
theorem wp_mhi (L:Lts prog w A s κ num a₀) {Q:Array Keyed→SortSt→Prop} (hk:kindOf st=κ) (ha:∀ x∈a.toList,x∈a₀.toList) (hbm:∀ x∈b.toList,x∈a₀.toList)
    (sa:Srt num a.toList) (sb:Srt num b.toList) (za:0<a.size) (zb:0<b.size) (hf:Fst num a b) (hb:Bey num a b)
    (h:∀ r st',Sm st st'→Res num (a.toList++b.toList) r→Q r st'):wpS (model prog w) A E s (mergeHi' a b) Q st:=by
  rw [hi_is]
  unfold hi0
  refine wpS_bind (wpS_lift (wpAny_rule ⟨rfl,?_⟩))
  refine wpS_bind (wp_elem (Array.getElem?_eq_getElem (by omega:a.size-1<a.size)) ?_)
  have h0:MdH num (a.toList++b.toList) a b #[a[a.size-1]'(by omega)] (a.size-1) b.size:=by
    refine MdH.pa (o:=#[]) (m:=a.size) ?_ za (Nat.le_refl _) fun y hy=>?_
    · have e1:a.toList.take a.size=a.toList:=List.take_of_length_le (by simp)
      have e2:b.toList.take b.size=b.toList:=List.take_of_length_le (by simp)
      refine ⟨?_,List.Pairwise.nil,?_,?_,by simp,by simp⟩
      · rw [e1,e2];simpa using List.Perm.append (List.reverse_perm _) (List.reverse_perm _)
      · rw [e1];exact srt_rev.mpr sa
      · rw [e2];exact srt_rev.mpr sb
    · exact Int.le_of_lt (hb y (List.mem_of_mem_take hy) _ (Array.getElem?_eq_getElem (by omega)))
  by_cases e1:a.size-1=0
  · rw [if_pos (by simpa using e1)]
    exact wpS_pure (h _ _ Sm.rfl (res_h0 h0 e1))
  rw [if_neg (by simpa using e1)]
  by_cases e2:b.size=1
  · rw [if_pos (by simpa using e2)]
    exact wpS_pure (h _ _ Sm.rfl (res_h1 h0 e2 zb hf))
  rw [if_neg (by simpa using e2)]
  refine wpS_bind (wpS_get ?_)
  refine wpS_bind (wpS_mono (wpS_forRange (I:=fun x c st'=>Sm st st'∧∃ m n o mg,c=(none,m,n,o,mg)∧(1≤m∧m≤a.size∧2≤n∧n≤b.size∧MdH num (a.toList++b.toList) a b o m n)∧x+1≤o.size)
    (Q:=fun c st'=>Sm st st'∧∃ r d,c=(some r,d)∧Res num (a.toList++b.toList) r) ?step ?fin ⟨Sm.rfl,_,_,_,_,rfl,⟨by omega,by omega,by omega,by omega,h0⟩,by simp⟩) ?post)
  case post=>
    rintro c st' ⟨hs,r,d,rfl,hr⟩
    exact wpS_pure (h _ _ hs hr)
  case fin=>
    rintro c st' ⟨hs,m,n,o,mg,rfl,⟨g1,g2,g3,g4,g5⟩,g6⟩
    have:=g5.pm.length_eq
    simp at this
    omega
  case step=>
    rintro x c st' _ hx ⟨hs,m,n,o,mg,rfl,hI,hz⟩
    unfold hiB
    dsimp only
    refine wpS_bind (wpS_mono (wpS_forRange (I:=fun y c st''=>Sm st st''∧∃ m n o ca cb,c=(none,m,n,o,ca,cb)∧(1≤m∧m≤a.size∧2≤n∧n≤b.size∧MdH num (a.toList++b.toList) a b o m n)∧x+1+min y 1≤o.size)
      (Q:=fun c st''=>Sm st st''∧((∃ m n o ca cb,c=(none,m,n,o,ca,cb)∧(1≤m∧m≤a.size∧2≤n∧n≤b.size∧MdH num (a.toList++b.toList) a b o m n)∧x+2≤o.size)∨∃ r d,c=(some r,d)∧Res num (a.toList++b.toList) r)) ?s1 ?f1 ⟨hs,_,_,_,_,_,rfl,hI,by omega⟩) ?p1)
    case f1=>
      rintro c st'' ⟨hs,m,n,o,ca,cb,rfl,hI,hz⟩
      exact ⟨hs,.inl ⟨m,n,o,ca,cb,rfl,hI,by omega⟩⟩
    case s1=>
      rintro y c st'' _ hy ⟨hs,m,n,o,ca,cb,rfl,⟨h1,h2,h3,h4,hM⟩,hz⟩
      unfold hiC
      dsimp only
      have hp':m-1<a.size:=by omega
      have hq:n-1<b.size:=by omega
      refine wpS_bind (wp_elem (Array.getElem?_eq_getElem hq) (wpS_bind (wp_elem (Array.getElem?_eq_getElem hp') (wpS_bind (wp_lt L (by rw [hs.k,hk]) (hbm _ (by simp)) (ha _ (by simp)) ?_)))))
      by_cases hw:num (b[n-1]'hq)<num (a[m-1]'hp')
      · simp only [hw,decide_true,if_true]
        refine wpS_bind (wp_elem (Array.getElem?_eq_getElem hp') ?_)
        have g:=hM.pa (by omega) h2 (fun y hy'=>Int.le_trans (tl_le (by omega) h4 hM.sy hy') (Int.le_of_lt hw))
        by_cases e:m-1=0
        · rw [if_pos (by simpa using e)]
          exact wpS_pure ⟨hs,.inr ⟨_,_,rfl,res_h0 g e⟩⟩
        · rw [if_neg (by simpa using e)]
          split
          · exact wpS_pure ⟨hs,.inl ⟨_,_,_,_,_,rfl,⟨by omega,by omega,h3,h4,g⟩,by simp;omega⟩⟩
          · exact wpS_pure ⟨hs,_,_,_,_,_,rfl,⟨by omega,by omega,h3,h4,g⟩,by simp;omega⟩
      · simp only [hw,decide_false,Bool.false_eq_true,if_false]
        refine wpS_bind (wp_elem (Array.getElem?_eq_getElem hq) ?_)
        have g:=hM.pb (by omega) h4 (fun y hy'=>Int.le_trans (tl_le (by omega) h2 hM.sx hy') (Int.not_lt.mp hw))
        by_cases e:n-1=1
        · rw [if_pos (by simpa using e)]
          exact wpS_pure ⟨hs,.inr ⟨_,_,rfl,res_h1 g e zb hf⟩⟩
        · rw [if_neg (by simpa using e)]
          split
          · exact wpS_pure ⟨hs,.inl ⟨_,_,_,_,_,rfl,⟨h1,h2,by omega,by omega,g⟩,by simp;omega⟩⟩
          · exact wpS_pure ⟨hs,_,_,_,_,_,rfl,⟨h1,h2,by omega,by omega,g⟩,by simp;omega⟩
    case p1=>
      rintro c st'' ⟨hs,⟨m,n,o,ca,cb,rfl,hI,hz⟩ | ⟨r,d,rfl,hr⟩⟩
      · dsimp only
        refine wpS_bind (wpS_lift (wpAny_rule ⟨rfl,?_⟩))
        refine wpS_bind (wpS_mono (wpS_forRange (I:=fun y c st3=>IH num (a.toList++b.toList) a b (x+2) st c st3)
          (Q:=fun c st3=>IH num (a.toList++b.toList) a b (x+2) st c st3∨RH num (a.toList++b.toList) st c st3) ?s2 ?f2 ⟨hs,_,_,_,_,_,_,rfl,hI,hz⟩) ?p2)
        case f2=>exact fun c st3 h=>.inl h
        case s2=>
          rintro y c st3 _ hy ⟨hs,m,n,o,mg,ca,cb,rfl,⟨h1,h2,h3,h4,hM⟩,hz⟩
          have go:∀ g,wpS (model prog w) A E s (hi1 a b o m n g ca cb) (PH num (a.toList++b.toList) a b (x+2) st) st3:=fun g=>wp_hi1 L hk ha hbm hs h1 h2 h3 h4 hM hf hz
          exact wpS_mono (m:=if mg>1 then hi1 a b o m n (mg-1) ca cb else hi1 a b o m n mg ca cb) (by split<;>exact go _) fun r st' h=>by cases r<;>exact h
        case p2=>
          rintro c st3 (⟨hs,m,n,o,mg,ca,cb,rfl,hI,hz⟩ | ⟨hs,r,d,rfl,hr⟩)
          · dsimp only
            exact wpS_bind (wp_mg hs fun st4 hs=>wpS_pure ⟨hs,_,_,_,_,rfl,hI,hz⟩)
          · exact wpS_pure ⟨hs,_,_,rfl,hr⟩
      · exact wpS_pure ⟨hs,_,_,rfl,hr⟩
theorem mergeAt'_eq (i:Nat):mergeAt' i=(do
  let z ← get
  let (some (sa,na,pw),some (sb,nb,_)):=((pendingOf z)[i]?,(pendingOf z)[i+1]?) | unsupported "internal:list.sort.pending"
  set (setPending z (((pendingOf z).setIfInBounds i (sa,na+nb,pw)).eraseIdxIfInBounds (i+1)))
  let some k ← gallop' false (← elem' (arrOf z) sb) (arrOf z) sa na 0 | return false
  let (sa,na):=(sa+k,na-k)
  if na==0 then return true
  let some nb ← gallop' true (← elem' (arrOf z) (sa+na-1)) (arrOf z) sb nb (nb-1) | return false
  if nb==0 then return true
  let x:=(arrOf z).extract sa sb
  let y:=(arrOf z).extract sb (sb+nb)
  let merged ← if na≤nb then mergeLo' x y else mergeHi' x y
  modify fun t=>setArr t (merged.toList.zipIdx.foldl (fun a (p,j)=>a.setIfInBounds (sa+j) p) (arrOf t))
  return (failedOf (← get)).isNone):=rfl
theorem put_all:∀ (l:List Keyed) (c sa:Nat) (xs:Array Keyed),sa+c+l.length≤xs.size→
    ((l.zipIdx c).foldl (fun a (p,j)=>a.setIfInBounds (sa+j) p) xs).toList=xs.toList.take (sa+c)++l++xs.toList.drop (sa+c+l.length)
  | [],c,sa,xs,h=>by simp
  | x::l,c,sa,xs,h=>by
    rw [List.zipIdx_cons,List.foldl_cons]
    have hl:sa+(c+1)+l.length≤(xs.setIfInBounds (sa+c) x).size:=by simp at h ⊢;omega
    rw [put_all l (c+1) sa _ hl]
    simp only [Array.toList_setIfInBounds]
    have h1:sa+c<xs.toList.length:=by simp at h ⊢;omega
    rw [show sa+(c+1)=sa+c+1 by omega,List.take_succ_eq_append_getElem (by simpa using h1),List.take_set_of_le (Nat.le_refl _),List.getElem_set_self,List.drop_set_of_lt (by omega)]
    simp only [List.append_assoc,List.cons_append,List.nil_append,List.length_cons]
    rw [show sa+c+1+l.length=sa+c+(l.length+1) by omega]
end
end Ts
namespace Ts
open PySem PyProof.Rows
section
variable {prog:Program} {w:World} {A:Around} {E:Value→Shared→Prop} {s:Shared} {a₀:Array Keyed} {κ:SortKind} {num:Keyed→Int} {st:SortSt}
theorem wp_set {M:Model} {σ:Type} {Q:PUnit→σ→Prop} {st st':σ} (h:Q ⟨⟩ st'):wpS M A E s (set st':StateT σ Sem PUnit) Q st:=by
  unfold wpS;rw [StateT.run_set];exact wpAny_pure ⟨rfl,h⟩
theorem srt_app {X Y:List Keyed} (h1:Srt num X) (h2:Srt num Y) (h:∀ x∈X,∀ y∈Y,num x≤num y):Srt num (X++Y):=List.pairwise_append.mpr ⟨h1,h2,h⟩
theorem Srt.tk {X:List Keyed} (h:Srt num X) (k:Nat):Srt num (X.take k):=List.Pairwise.sublist (List.take_sublist _ _) h
theorem Srt.dr {X:List Keyed} (h:Srt num X) (k:Nat):Srt num (X.drop k):=List.Pairwise.sublist (List.drop_sublist _ _) h
theorem wp_mergeAt (L:Lts prog w A s κ num a₀) {i sa na pw sb nb pw2:Nat} {p1 p2:List (Nat×Nat×Nat)} {P X Y S:List Keyed} {Q:Bool→SortSt→Prop} (hk:kindOf st=κ) (hfl:failedOf st=none)
    (hp:(pendingOf st).toList=p1++(sa,na,pw)::(sb,nb,pw2)::p2) (hi:i=p1.length) (har:(arrOf st).toList=P++X++Y++S) (hm:∀ x∈(arrOf st).toList,x∈a₀.toList)
    (hsa:sa=P.length) (hna:na=X.length) (hsb:sb=sa+na) (hnb:nb=Y.length) (zx:0<X.length) (zy:0<Y.length) (sx:Srt num X) (sy:Srt num Y)
    (h:∀ st' M,kindOf st'=κ→failedOf st'=none→(pendingOf st').toList=p1++(sa,na+nb,pw)::p2→(arrOf st').toList=P++M++S→M.Perm (X++Y)→Srt num M→Q true st') :
    wpS (model prog w) A E s (mergeAt' i) Q st:=by
  have e1:(pendingOf st)[i]?=some (sa,na,pw):=by rw [← Array.getElem?_toList,hp,hi];simp
  have e2:(pendingOf st)[i+1]?=some (sb,nb,pw2):=by rw [← Array.getElem?_toList,hp,hi];simp
  rw [mergeAt'_eq]
  refine wpS_bind (wpS_get ?_)
  rw [e1,e2]
  dsimp only
  refine wpS_bind (wp_set ?_)
  have hpd:(((pendingOf st).setIfInBounds i (sa,na+nb,pw)).eraseIdxIfInBounds (i+1)).toList=p1++(sa,na+nb,pw)::p2:=by
    rw [Array.toList_eraseIdxIfInBounds,Array.toList_setIfInBounds,hp,hi,List.set_append_right _ _ (Nat.le_refl _),Nat.sub_self,List.set_cons_zero,List.eraseIdx_append_of_length_le (by omega),show p1.length+1-p1.length=1 by omega]
    rfl
  generalize hst:setPending st (((pendingOf st).setIfInBounds i (sa,na+nb,pw)).eraseIdxIfInBounds (i+1))=st1
  have k1:kindOf st1=κ:=by rw [← hst];exact hk
  have f1:failedOf st1=none:=by rw [← hst];exact hfl
  have p1':(pendingOf st1).toList=p1++(sa,na+nb,pw)::p2:=by rw [← hst];exact hpd
  have a1:arrOf st1=arrOf st:=by rw [← hst]
  have atX:∀ j,j<na→(arrOf st)[sa+j]?=X[j]?:=fun j hj=>by
    rw [← Array.getElem?_toList,har,List.append_assoc,List.append_assoc,List.getElem?_append_right (by omega),List.getElem?_append_left (by omega)]
    congr 1;omega
  have atY:∀ j,j<nb→(arrOf st)[sb+j]?=Y[j]?:=fun j hj=>by
    rw [← Array.getElem?_toList,har,List.append_assoc,List.getElem?_append_right (by simp;omega),List.getElem?_append_left (by simp;omega)]
    congr 1;simp;omega
  have mX:∀ x∈X,x∈a₀.toList:=fun x hx=>hm x (by rw [har];simp [hx])
  have mY:∀ x∈Y,x∈a₀.toList:=fun x hx=>hm x (by rw [har];simp [hx])
  have ey:(arrOf st)[sb]?=some Y[0]:=by have:=atY 0 (by omega);rw [Nat.add_zero] at this;rw [this];exact List.getElem?_eq_getElem zy
  refine wpS_bind (wp_elem ey (wpS_bind (wp_gal L (X:=X) k1 (mY _ (by simp)) hna atX mX sx (by omega) fun k h3 h4 h5=>?_)))
  dsimp only
  have yl:∀ y∈Y,num Y[0]≤num y:=fun y hy=>by
    obtain ⟨j,hj⟩:=List.mem_iff_getElem?.mp hy
    exact sy.at (Nat.zero_le j) (List.getElem?_eq_getElem zy) hj
  have l1:∀ x∈X.take k,num x≤num Y[0]:=fun x hx=>by have:=h4 x hx;simp at this;exact this
  have l2:∀ x∈X.drop k,num Y[0]<num x:=fun x hx=>by have:=h5 x hx;simp at this;exact this
  by_cases ek:na-k=0
  · rw [if_pos (by simpa using ek)]
    have e:X.take k=X:=List.take_of_length_le (by omega)
    rw [e] at l1
    exact wpS_pure (h st1 (X++Y) k1 f1 p1' (by rw [a1,har];simp) (List.Perm.refl _) (srt_app sx sy fun x hx y hy=>Int.le_trans (l1 x hx) (yl y hy)))
  rw [if_neg (by simpa using ek)]
  have zl:X.length-1<X.length:=by omega
  have ex:(arrOf st)[sa+k+(na-k)-1]?=some X[X.length-1]:=by
    have:=atX (na-1) (by omega)
    rw [show sa+k+(na-k)-1=sa+(na-1) by omega,this,hna]
    exact List.getElem?_eq_getElem zl
  have xl:∀ x∈X,num x≤num X[X.length-1]:=fun x hx=>by
    obtain ⟨j,hj⟩:=List.mem_iff_getElem?.mp hx
    exact sx.at (by have:=(List.getElem?_eq_some_iff.mp hj).1;omega) hj (List.getElem?_eq_getElem zl)
  have xd:X[X.length-1]∈X.drop k:=List.mem_iff_getElem?.mpr ⟨X.length-1-k,by rw [List.getElem?_drop,show k+(X.length-1-k)=X.length-1 by omega];exact List.getElem?_eq_getElem zl⟩
  refine wpS_bind (wp_elem ex (wpS_bind (wp_gal L (X:=Y) k1 (mX _ (by simp)) hnb atY mY sy (by omega) fun k2 h6 h7 h8=>?_)))
  dsimp only
  have l3:∀ y∈Y.take k2,num y<num X[X.length-1]:=fun y hy=>by have:=h7 y hy;simp at this;exact this
  have l4:∀ y∈Y.drop k2,num X[X.length-1]≤num y:=fun y hy=>by have:=h8 y hy;simp at this;exact this
  have k20:k2≠0:=fun z=>by
    subst z
    have:=l4 Y[0] (by simp)
    have:=l2 _ xd
    omega
  rw [if_neg (by simpa using k20)]
  have tx:((arrOf st).extract (sa+k) sb).toList=X.drop k:=by
    rw [Array.toList_extract,List.extract_eq_drop_take,har,List.append_assoc,List.append_assoc,hsa,← List.drop_drop,List.drop_left,List.drop_append_of_le_length (by omega)]
    rw [List.take_left' (by simp;omega)]
  have ty:((arrOf st).extract sb (sb+k2)).toList=Y.take k2:=by
    rw [Array.toList_extract,List.extract_eq_drop_take,har,show sb=(P++X).length by simp;omega,List.append_assoc,List.drop_left,show (P++X).length+k2-(P++X).length=k2 by omega,List.take_append_of_le_length (by omega)]
  generalize (arrOf st).extract (sa+k) sb=x at tx ⊢
  generalize (arrOf st).extract sb (sb+k2)=y at ty ⊢
  have zx':0<x.size:=by rw [← Array.length_toList,tx];simp;omega
  have zy':0<y.size:=by rw [← Array.length_toList,ty];simp;omega
  have y0:y[0]?=some Y[0]:=by rw [← Array.getElem?_toList,ty,List.getElem?_take,if_pos (by omega)];exact List.getElem?_eq_getElem zy
  have xz:x[x.size-1]?=some X[X.length-1]:=by
    have:x.size=X.length-k:=by rw [← Array.length_toList,tx];simp
    rw [← Array.getElem?_toList,tx,List.getElem?_drop,this,show k+(X.length-k-1)=X.length-1 by omega]
    exact List.getElem?_eq_getElem zl
  have hf:Fst num x y:=fun u hu f hf=>by
    rw [y0] at hf;cases hf
    exact l2 u (by rw [← tx];exact hu)
  have hb:Bey num x y:=fun v hv l hl=>by
    rw [xz] at hl;cases hl
    exact l3 v (by rw [← ty];exact hv)
  have go:∀ r st2,Sm st1 st2→Res num (x.toList++y.toList) r→wpS (model prog w) A E s (do
      modify fun t=>setArr t (r.toList.zipIdx.foldl (fun a (p,j)=>a.setIfInBounds (sa+k+j) p) (arrOf t))
      return (failedOf (← get)).isNone) Q st2:=by
    intro r st2 hs2 hr
    refine wpS_bind (wpS_modify (wpS_bind (wpS_get ?_)))
    obtain ⟨r1,r2⟩:=hr
    rw [tx,ty] at r1
    have rl:=r1.length_eq
    rw [List.length_append,List.length_drop,List.length_take] at rl
    have al:(arrOf st).toList.length=P.length+X.length+Y.length+S.length:=by rw [har];simp;omega
    have pa:=put_all r.toList 0 (sa+k) (arrOf st) (by rw [← Array.length_toList];omega)
    rw [show arrOf st2=arrOf st by rw [hs2.a,a1]]
    have fin:wpS (model prog w) A E s (pure true) Q (setArr st2 ((r.toList.zipIdx).foldl (fun a (p,j)=>a.setIfInBounds (sa+k+j) p) (arrOf st))):=by
      refine wpS_pure (h _ (X.take k++r.toList++Y.drop k2) (by show kindOf st2=κ;rw [hs2.k,k1]) (by show failedOf st2=none;rw [hs2.f,f1]) (by show (pendingOf st2).toList=_;rw [hs2.p,p1']) ?_ ?_ ?_)
      · show ((r.toList.zipIdx).foldl (fun a (p,j)=>a.setIfInBounds (sa+k+j) p) (arrOf st)).toList=_
        rw [pa]
        have q1:(arrOf st).toList.take (sa+k+0)=P++X.take k:=by
          rw [har,List.append_assoc,List.append_assoc,hsa,Nat.add_zero,List.take_length_add_append,List.take_append_of_le_length (by omega)]
        have q2:(arrOf st).toList.drop (sa+k+0+r.toList.length)=Y.drop k2++S:=by
          rw [har,List.append_assoc,show sa+k+0+r.toList.length=(P++X).length+k2 by rw [List.length_append,rl];omega,List.drop_length_add_append,List.drop_append_of_le_length (by omega)]
        rw [q1,q2];simp
      · have:(X.take k++(X.drop k++Y.take k2)++Y.drop k2)=X++Y:=by
          rw [← List.append_assoc,List.take_append_drop,List.append_assoc,List.take_append_drop]
        rw [← this]
        exact List.Perm.append_right _ (List.Perm.append_left _ r1)
      · have inr:∀ u∈r.toList,u∈X.drop k∨u∈Y.take k2:=fun u hu=>List.mem_append.mp (r1.mem_iff.mp hu)
        refine srt_app (srt_app (sx.tk k) r2 fun u hu v hv=>?_) (sy.dr k2) fun u hu v hv=>?_
        · rcases inr v hv with hv | hv
          · exact Int.le_trans (l1 u hu) (Int.le_of_lt (l2 v hv))
          · exact Int.le_trans (l1 u hu) (yl v (List.mem_of_mem_take hv))
        · have g:=l4 v hv
          rcases List.mem_append.mp hu with hu | hu
          · exact Int.le_trans (l1 u hu) (yl v (List.mem_of_mem_drop hv))
          · rcases inr u hu with hu | hu
            · exact Int.le_trans (xl u (List.mem_of_mem_drop hu)) g
            · exact Int.le_trans (Int.le_of_lt (l3 u hu)) g
    have ff:(failedOf (setArr st2 ((r.toList.zipIdx).foldl (fun a (p,j)=>a.setIfInBounds (sa+k+j) p) (arrOf st)))).isNone=true:=by
      show (failedOf st2).isNone=true
      rw [hs2.f,f1];rfl
    rw [ff]
    exact fin
  have mx:∀ u∈x.toList,u∈a₀.toList:=fun u hu=>mX u (List.mem_of_mem_drop (by rw [← tx];exact hu))
  have my:∀ u∈y.toList,u∈a₀.toList:=fun u hu=>mY u (List.mem_of_mem_take (by rw [← ty];exact hu))
  have s1:Srt num x.toList:=by rw [tx];exact sx.dr k
  have s2:Srt num y.toList:=by rw [ty];exact sy.tk k2
  by_cases hc:na-k≤k2
  · rw [if_pos hc]
    exact wpS_bind (wp_mlo L k1 mx my s1 s2 zx' zy' (fun u hu=>Int.le_of_lt (hf u hu _ (Array.getElem?_eq_getElem zy'))) hb go)
  · rw [if_neg hc]
    exact wpS_bind (wp_mhi L k1 mx my s1 s2 zx' zy' hf hb go)
end
end Ts
namespace Ts
open PySem PyProof.Rows
def Stk (num:Keyed→Int):Nat→List (Nat×Nat×Nat)→List (List Keyed)→Prop
  | _,[],[]=>True
  | c,p::ps,r::rs=>p.1=c∧p.2.1=r.length∧0<r.length∧Srt num r∧Stk num (c+r.length) ps rs
  | _,_,_=>False
theorem Stk.len {num:Keyed→Int}:∀ {ps:List (Nat×Nat×Nat)} {rs:List (List Keyed)} {c:Nat},Stk num c ps rs→rs.length=ps.length∧ps.length≤rs.flatten.length
  | [],[],c,h=>⟨rfl,Nat.le_refl _⟩
  | [],_::_,c,h=>h.elim
  | _::_,[],c,h=>h.elim
  | p::ps,r::rs,c,h=>by
    obtain ⟨h1,h2⟩:=Stk.len h.2.2.2.2
    have:=h.2.2.1
    refine ⟨by rw [List.length_cons,List.length_cons,h1],?_⟩
    rw [List.flatten_cons,List.length_append,List.length_cons]
    omega
theorem Stk.split {num:Keyed→Int}:∀ {p1 p2:List (Nat×Nat×Nat)} {rs:List (List Keyed)} {c:Nat},Stk num c (p1++p2) rs→∃ r1 r2,rs=r1++r2∧Stk num c p1 r1∧Stk num (c+r1.flatten.length) p2 r2
  | [],p2,rs,c,h=>⟨[],rs,rfl,trivial,h⟩
  | p::p1,p2,[],c,h=>h.elim
  | p::p1,p2,r::rs,c,h=>by
    obtain ⟨r1,r2,e,h1,h2⟩:=Stk.split h.2.2.2.2
    refine ⟨r::r1,r2,by rw [e];rfl,⟨h.1,h.2.1,h.2.2.1,h.2.2.2.1,h1⟩,?_⟩
    rw [List.flatten_cons,List.length_append,← Nat.add_assoc];exact h2
theorem Stk.join {num:Keyed→Int}:∀ {p1 p2:List (Nat×Nat×Nat)} {r1 r2:List (List Keyed)} {c:Nat},Stk num c p1 r1→Stk num (c+r1.flatten.length) p2 r2→Stk num c (p1++p2) (r1++r2)
  | [],p2,[],r2,c,_,h=>by simpa using h
  | [],_,_::_,_,_,h,_=>h.elim
  | _::_,_,[],_,_,h,_=>h.elim
  | p::p1,p2,r::r1,r2,c,h,g=>⟨h.1,h.2.1,h.2.2.1,h.2.2.2.1,Stk.join h.2.2.2.2 (by rw [List.flatten_cons,List.length_append,← Nat.add_assoc] at g;exact g)⟩
theorem Stk.mod {num:Keyed→Int} {pw:Nat}:∀ {ps:List (Nat×Nat×Nat)} {rs:List (List Keyed)} {c:Nat} (i:Nat),Stk num c ps rs→Stk num c (ps.modify i fun (a,b,_)=>(a,b,pw)) rs
  | [],rs,c,i,h=>by simpa using h
  | _::_,[],c,i,h=>h.elim
  | p::ps,r::rs,c,0,h=>by simpa [Stk] using h
  | p::ps,r::rs,c,i+1,h=>by
    rw [List.modify_succ_cons]
    exact ⟨h.1,h.2.1,h.2.2.1,h.2.2.2.1,Stk.mod i h.2.2.2.2⟩
structure Jn (κ:SortKind) (a₀:Array Keyed) (num:Keyed→Int) (st:SortSt) (lo:Nat) (rest:List Keyed):Prop where
  k:kindOf st=κ
  f:failedOf st=none
  p:(arrOf st).Perm a₀
  s:∃ rs,Stk num 0 (pendingOf st).toList rs∧(arrOf st).toList=rs.flatten++rest∧lo=rs.flatten.length
section
variable {prog:Program} {w:World} {A:Around} {E:Value→Shared→Prop} {s:Shared} {a₀:Array Keyed} {κ:SortKind} {num:Keyed→Int} {st:SortSt} {lo:Nat} {rest:List Keyed}
theorem wp_mj (L:Lts prog w A s κ num a₀) {i:Nat} {Q:Bool→SortSt→Prop} (J:Jn κ a₀ num st lo rest) (hi:i+1<(pendingOf st).size)
    (h:∀ st',Jn κ a₀ num st' lo rest→(pendingOf st').size+1=(pendingOf st).size→Q true st'):wpS (model prog w) A E s (mergeAt' i) Q st:=by
  obtain ⟨jk,jf,jp,rs,j1,j2,j3⟩:=J
  have hl:i+1<(pendingOf st).toList.length:=by simpa using hi
  obtain ⟨⟨a1,b1,c1⟩,e1⟩:∃ p,(pendingOf st).toList[i]?=some p:=⟨_,List.getElem?_eq_getElem (by omega)⟩
  obtain ⟨⟨a2,b2,c2⟩,e2⟩:∃ p,(pendingOf st).toList[i+1]?=some p:=⟨_,List.getElem?_eq_getElem hl⟩
  obtain ⟨z1,z2⟩:=List.getElem?_eq_some_iff.mp e1
  obtain ⟨z3,z4⟩:=List.getElem?_eq_some_iff.mp e2
  have ep:(pendingOf st).toList=(pendingOf st).toList.take i++(a1,b1,c1)::(a2,b2,c2)::(pendingOf st).toList.drop (i+2):=by
    rw [← z4,← z2,← List.drop_eq_getElem_cons,← List.drop_eq_getElem_cons,List.take_append_drop]
  rw [ep] at j1
  obtain ⟨r1,r2,er,k1,k2⟩:=Stk.split j1
  match r2,k2 with
  | X::Y::r2,⟨q1,q2,q3,q4,q5,q6,q7,q8,q9⟩=>
    refine wp_mergeAt L (P:=r1.flatten) (X:=X) (Y:=Y) (S:=r2.flatten++rest) jk jf ep (by simp;omega) (by rw [j2,er];simp) (fun x hx=>(Array.perm_iff_toList_perm.mp jp).mem_iff.mp hx) (by simpa using q1) q2 (by have:=q1;have:=q5;have:=q2;simp at *;omega) q6 q3 q7 q4 q8 fun st' M m1 m2 m3 m4 m5 m6=>?_
    have ml:=m5.length_eq
    rw [List.length_append] at ml
    refine h st' ⟨m1,m2,?_,r1++M::r2,?_,?_,?_⟩ ?_
    · refine Array.perm_iff_toList_perm.mpr (List.Perm.trans ?_ (Array.perm_iff_toList_perm.mp jp))
      rw [m4,j2,er]
      simp only [List.flatten_append,List.flatten_cons,List.append_assoc]
      refine List.Perm.append_left _ ?_
      rw [← List.append_assoc]
      rw [show X++(Y++(r2.flatten++rest))=(X++Y)++(r2.flatten++rest) by simp]
      rw [show (M++r2.flatten)++rest=M++(r2.flatten++rest) by simp]
      exact List.Perm.append_right _ m5
    · rw [m3]
      refine Stk.join k1 ⟨q1,?_,by omega,m6,?_⟩
      · show b1+b2=M.length
        have:=q2;have:=q6;simp at *;omega
      · rw [ml,← Nat.add_assoc];exact q9
    · rw [m4];simp
    · rw [j3,er];simp;omega
    · have:=congrArg List.length ep
      have t:=congrArg List.length m3
      simp at this t
      omega
end
end Ts
namespace Ts
open PySem PyProof.Rows
def tlB (size s1 n1 n:Nat):StateT SortSt Sem (ForInStep (Option Unit×Unit)):=do
  let z ← get
  match if (pendingOf z).size>1 then (pendingOf z)[(pendingOf z).size-2]? else none with
  | some (_,_,older)=>
    if older≤power' size (2*s1+n1) (2*s1+n1+n1+n) size then pure (ForInStep.done (none,()))
    else do
      let ok ← mergeAt' ((pendingOf z).size-2)
      if (!ok)=true then pure (ForInStep.done (some (),())) else pure (ForInStep.yield (none,()))
  | _=>pure (ForInStep.done (none,()))
section
variable {prog:Program} {w:World} {A:Around} {E:Value→Shared→Prop} {s:Shared} {a₀:Array Keyed} {κ:SortKind} {num:Keyed→Int} {st:SortSt} {lo:Nat} {rest R:List Keyed}
theorem Jn.push (J:Jn κ a₀ num st lo (R++rest)) (hs:Srt num R) (hz:0<R.length):Jn κ a₀ num (setPending st ((pendingOf st).push (lo,R.length,0))) (lo+R.length) rest:=by
  obtain ⟨k,f,p,rs,j1,j2,j3⟩:=J
  refine ⟨k,f,p,rs++[R],?_,?_,?_⟩
  · show Stk num 0 ((pendingOf st).push (lo,R.length,0)).toList _
    rw [Array.toList_push]
    exact Stk.join j1 ⟨by rw [j3,Nat.zero_add],rfl,hz,hs,trivial⟩
  · show (arrOf st).toList=_
    rw [j2];simp
  · rw [j3,List.flatten_append,List.length_append];simp
theorem wp_tlB (L:Lts prog w A s κ num a₀) {size s1 n1 n:Nat} (J:Jn κ a₀ num st lo rest) {Q:ForInStep (Option Unit×Unit)→SortSt→Prop}
    (h:∀ st',Jn κ a₀ num st' lo rest→Q (.done (none,())) st'∧Q (.yield (none,())) st'):wpS (model prog w) A E s (tlB size s1 n1 n) Q st:=by
  unfold tlB
  refine wpS_bind (wpS_get ?_)
  by_cases hg:(pendingOf st).size>1
  · rw [if_pos hg]
    obtain ⟨⟨u1,u2,u3⟩,e⟩:∃ p,(pendingOf st)[(pendingOf st).size-2]?=some p:=⟨_,Array.getElem?_eq_getElem (by omega)⟩
    rw [e]
    dsimp only
    split
    · exact wpS_pure (h _ J).1
    · exact wpS_bind (wp_mj L J (by omega) fun st2 J2 _=>wpS_pure (h _ J2).2)
  · rw [if_neg hg]
    exact wpS_pure (h _ J).1
theorem Jn.pow {pw:Nat} (J:Jn κ a₀ num st lo rest) (i:Nat):Jn κ a₀ num (setPending st ((pendingOf st).modify i fun x=>(x.1,x.2.1,pw))) lo rest:=by
  obtain ⟨k,f,p,rs,j1,j2,j3⟩:=J
  refine ⟨k,f,p,rs,?_,j2,j3⟩
  show Stk num 0 ((pendingOf st).modify i fun x=>(x.1,x.2.1,pw)).toList rs
  rw [Array.toList_modify]
  exact Stk.mod _ j1
theorem Jn.cut {st2:SortSt} {n:Nat} (J:Jn κ a₀ num st lo rest) (hB:SB κ a₀ (pendingOf st) st2) (hk:Kp lo (arrOf st) (arrOf st2)) (hu:Up num (arrOf st2) lo (lo+n)) (hn:lo+n≤a₀.size) :
    ∃ R rest',Jn κ a₀ num st2 lo (R++rest')∧Srt num R∧R.length=n:=by
  obtain ⟨k,f,p,rs,j1,j2,j3⟩:=J
  have hl:(arrOf st2).toList.length=a₀.size:=by rw [Array.length_toList];exact hB.size
  refine ⟨((arrOf st2).toList.drop lo).take n,(arrOf st2).toList.drop (lo+n),⟨hB.kind,hB.failed,hB.perm,rs,by rw [hB.pend];exact j1,?_,j3⟩,?_,by simp at hl ⊢;omega⟩
  · rw [tk_dr]
    have e:rs.flatten=(arrOf st2).toList.take lo:=by
      have e1:rs.flatten=(arrOf st).toList.take lo:=by rw [j2,j3,List.take_left]
      rw [e1]
      refine List.ext_getElem? fun i=>?_
      rw [List.getElem?_take,List.getElem?_take]
      split
      · rw [Array.getElem?_toList,Array.getElem?_toList];exact (hk i (by assumption)).symm
      · rfl
    rw [e,List.take_append_drop]
  · refine List.pairwise_iff_getElem.mpr fun i j hi hj hij=>?_
    have hi':i<n:=by simp at hi;omega
    have hj':j<n:=by simp at hj;omega
    have:=hu (lo+i) (lo+j) (by omega) (by omega) (by omega)
    have e1:=Array.getElem?_eq_getElem (xs:=arrOf st2) (i:=lo+i) (by simp at hl;omega)
    have e2:=Array.getElem?_eq_getElem (xs:=arrOf st2) (i:=lo+j) (by simp at hl;omega)
    rw [kz_at num e1,kz_at num e2] at this
    simpa using this
theorem wp_runs (L:Lts prog w A s κ num a₀) (D:Dst num a₀) {Q:Unit→SortSt→Prop} (hk:kindOf st=κ) (hf:failedOf st=none) (hp:pendingOf st=#[]) (ha:arrOf st=a₀)
    (h:∀ st',failedOf st'=none→(arrOf st').Perm a₀→Srt num (arrOf st').toList→Q () st'):wpS (model prog w) A E s sortRuns' Q st:=by
  rw [sortRuns'_eq]
  refine wpS_bind (wpS_get ?_)
  dsimp only
  rw [ha]
  have fit:∀ {st' lo rest},Jn κ a₀ num st' lo rest→lo+rest.length=a₀.size:=fun {st' lo rest} J=>by
    obtain ⟨k,f,p,rs,j1,j2,j3⟩:=J
    have e:=congrArg List.length j2
    rw [Array.length_toList,p.size_eq,List.length_append] at e
    omega
  refine wpS_bind (wpS_mono (wpS_forRange (I:=fun x c st'=>∃ lo rest,c=(none,lo)∧min x a₀.size≤lo∧Jn κ a₀ num st' lo rest)
    (Q:=fun c st'=>c=(none,a₀.size)∧Jn κ a₀ num st' a₀.size []) ?step ?fin ⟨0,a₀.toList,rfl,by omega,hk,hf,by rw [ha],[],by rw [hp];trivial,by rw [ha];rfl,rfl⟩) ?post)
  case fin=>
    rintro c st' ⟨lo,rest,rfl,hlo,J⟩
    have:=fit J
    have e:lo=a₀.size:=by omega
    have e2:rest=[]:=List.length_eq_zero_iff.mp (by omega)
    subst e;subst e2
    exact ⟨rfl,J⟩
  case step=>
    rintro x c st' _ hx ⟨lo,rest,rfl,hlo,J⟩
    dsimp only
    have fj:=fit J
    by_cases hge:lo≥a₀.size
    · rw [if_pos hge]
      have e:lo=a₀.size:=by omega
      have e2:rest=[]:=List.length_eq_zero_iff.mp (by omega)
      subst e;subst e2
      exact wpS_pure ⟨rfl,J⟩
    · rw [if_neg hge]
      have hB0:SB κ a₀ (pendingOf st') st':=⟨J.p,J.k,J.f,rfl⟩
      refine wpS_bind (wp_count L D (by omega) (by omega) hB0 fun m st2 hB2 hm1 hm2 hu hkp=>?_)
      dsimp only
      by_cases hmr:m<minRun' a₀.size a₀.size 0
      · rw [if_pos hmr]
        refine wpS_bind (wpS_lift (wpAny_rule ⟨rfl,?_⟩))
        refine wpS_bind (wp_bin L (by omega) (by omega) hB2 hu fun st3 hB3 hu3 hkp3=>?_)
        simp only [Bool.not_true,Bool.false_eq_true,if_false]
        have hk3:Kp lo (arrOf st') (arrOf st3):=fun k hk=>(hkp3 k hk).trans (hkp k hk)
        have hnz:0<min (a₀.size-lo) (minRun' a₀.size a₀.size 0):=by omega
        have hnl:lo+min (a₀.size-lo) (minRun' a₀.size a₀.size 0)≤a₀.size:=by omega
        generalize min (a₀.size-lo) (minRun' a₀.size a₀.size 0)=nn at hnz hnl hu3 ⊢
        obtain ⟨R,rest',J3,s3,l3⟩:=J.cut hB3 hk3 hu3 (by omega:lo+nn≤a₀.size)
        refine wpS_bind (wpS_get ?_)
        cases eb:(pendingOf st3).back? with
        | none=>
          refine wpS_bind (wpS_modify (wpS_pure ?_))
          rw [← l3]
          exact ⟨_,_,rfl,by omega,J3.push s3 (by omega)⟩
        | some p=>
          obtain ⟨s1,n1,o1⟩:=p
          dsimp only
          refine wpS_bind (wpS_mono (wpS_forRange (I:=fun x c st'=>c=(none,())∧Jn κ a₀ num st' lo (R++rest')) (Q:=fun c st'=>c=(none,())∧Jn κ a₀ num st' lo (R++rest')) ?s1 (fun c st' h=>h) ⟨rfl,J3⟩) ?p1)
          case s1=>
            rintro x c st' _ hx ⟨rfl,J'⟩
            exact wp_tlB L (size:=a₀.size) (s1:=s1) (n1:=n1) (n:=nn) J' fun st' J=>⟨⟨rfl,J⟩,rfl,J⟩
          case p1=>
            rintro c st' ⟨rfl,J'⟩
            dsimp only
            refine wpS_bind (wpS_modify (wpS_bind (wpS_modify (wpS_pure ?_))))
            rw [← l3]
            exact ⟨_,_,rfl,by omega,Jn.push (J'.pow _) s3 (by omega)⟩
      · rw [if_neg hmr]
        have hB3:=hB2
        have hu3:=hu
        have hk3:=hkp
        obtain ⟨R,rest',J3,s3,l3⟩:=J.cut hB3 hk3 hu3 (by omega:lo+m≤a₀.size)
        refine wpS_bind (wpS_get ?_)
        cases eb:(pendingOf st2).back? with
        | none=>
          refine wpS_bind (wpS_modify (wpS_pure ?_))
          rw [← l3]
          exact ⟨_,_,rfl,by omega,J3.push s3 (by omega)⟩
        | some p=>
          obtain ⟨s1,n1,o1⟩:=p
          dsimp only
          refine wpS_bind (wpS_mono (wpS_forRange (I:=fun x c st'=>c=(none,())∧Jn κ a₀ num st' lo (R++rest')) (Q:=fun c st'=>c=(none,())∧Jn κ a₀ num st' lo (R++rest')) ?s1 (fun c st' h=>h) ⟨rfl,J3⟩) ?p1)
          case s1=>
            rintro x c st' _ hx ⟨rfl,J'⟩
            exact wp_tlB L (size:=a₀.size) (s1:=s1) (n1:=n1) (n:=m) J' fun st' J=>⟨⟨rfl,J⟩,rfl,J⟩
          case p1=>
            rintro c st' ⟨rfl,J'⟩
            dsimp only
            refine wpS_bind (wpS_modify (wpS_bind (wpS_modify (wpS_pure ?_))))
            rw [← l3]
            exact ⟨_,_,rfl,by omega,Jn.push (J'.pow _) s3 (by omega)⟩
  case post=>
    rintro c st' ⟨rfl,J⟩
    dsimp only
    have psz:(pendingOf st').size≤a₀.size:=by
      obtain ⟨k,f,p,rs,j1,j2,j3⟩:=J
      have:=j1.len.2
      rw [Array.length_toList] at this
      omega
    refine wpS_bind (wpS_mono (wpS_forRange (I:=fun x c st'=>c=(none,())∧Jn κ a₀ num st' a₀.size []∧(pendingOf st').size≤max 1 (a₀.size-x)) (Q:=fun c st'=>c=(none,())∧Jn κ a₀ num st' a₀.size []∧(pendingOf st').size≤1) ?s1 ?f1 ⟨rfl,J,by omega⟩) ?p1)
    case f1=>
      rintro c st2 ⟨rfl,J2,h2⟩
      exact ⟨rfl,J2,by omega⟩
    case s1=>
      rintro x c st2 _ hx ⟨rfl,J2,h2⟩
      refine wpS_bind (wpS_get ?_)
      by_cases hle:(pendingOf st2).size≤1
      · rw [if_pos hle];exact wpS_pure ⟨rfl,J2,hle⟩
      · rw [if_neg hle]
        refine wpS_bind (wp_mj L J2 ?_ fun st3 J3 h3=>?_)
        · have key:∀ (p:Prop) [Decidable p] (n:Nat),(if p then n-1 else n)≤n:=fun p _ n=>by split<;>omega
          have:=key (Option.any (fun x=>decide (x<(pendingOf st2)[(pendingOf st2).size-2+1]?.elim 0 fun x=>x.snd.fst)) (if (pendingOf st2).size-2>0 then Option.map (fun x=>x.snd.fst) (pendingOf st2)[(pendingOf st2).size-2-1]? else none)=true) ((pendingOf st2).size-2)
          omega
        · exact wpS_pure ⟨rfl,J3,by omega⟩
    case p1=>
      rintro c st2 ⟨rfl,⟨k,f,p,rs,j1,j2,j3⟩,h2⟩
      refine wpS_pure (h st2 f p ?_)
      rw [j2,List.append_nil]
      have hl:(pendingOf st2).toList.length≤1:=by simpa using h2
      match rs,(pendingOf st2).toList,j1,hl with
      | [],_,_,_=>exact List.Pairwise.nil
      | [r],[q],⟨_,_,_,g,_⟩,_=>simpa using g
      | _::_::_,[q],⟨_,_,_,_,g⟩,_=>exact g.elim
      | _,_::_::_,_,g=>simp at g
end
end Ts
namespace Mi
open PySem PySem.Spec PyProof.Rows L2
theorem wo_ne {Z:Hp} {a b c:Addr} (h1:a≠b) (h2:a≠c):wo Z b c a=Z a:=if_neg (by simp [h1,h2])
theorem wo_l {Z:Hp} {b c:Addr}:wo Z b c b=none:=if_pos (.inl rfl)
theorem wo_r {Z:Hp} {b c:Addr}:wo Z b c c=none:=if_pos (.inr rfl)
theorem wo_same {Z:Hp} {b c:Addr}:Same (wo Z b c) Z:=fun a o e=>by
  unfold wo at e
  split at e
  · cases e
  · exact e
theorem wo_of {Z Z':Hp} {b c:Addr} (s:Same Z Z') (hb:Z b=none) (hc:Z c=none):Same Z (wo Z' b c):=fun a o e=>by
  rw [wo_ne (fun z=>by subst z;rw [hb] at e;cases e) (fun z=>by subst z;rw [hc] at e;cases e)]
  exact s a o e
section
variable {X:Cx} {e1 e2:Expr} {f1 f2:Fe} {pos:Pos}
def fTup2 (f1 f2:Fe):Fe:=fun env=>(f1 env).bind fun x=>(f2 env).bind fun y=>some (.tup [x,y])
theorem m_tup2 {k} (h1:PD X .nw e1 f1) (h2:PD X .nw e2 f2) (hs:starEach [e1,e2] X.env=(false,eval e1 X.env)::starEach [e2] X.env:=by rfl) (hs2:starEach [e2] X.env=(false,eval e2 X.env)::starEach [] X.env:=by rfl) :
    PD X .n2 (.Tuple [e1,e2] k pos) (fTup2 f1 f2):=PE.imp (pe_tup (pa_cons h1 (pa_cons h2 pa_nil hs2) hs)) fun σ H Q hq_=>by
  obtain ⟨env,B,Z,d,R,e,k⟩:=hq_
  obtain ⟨x,g1,e⟩:=Option.bind_eq_some_iff.mp e
  obtain ⟨y,g2,e⟩:=Option.bind_eq_some_iff.mp e
  cases e
  refine ⟨env,B,Z,x,R,g1,fun v Z1 H1 x1 n1=>⟨env,B,Z1,y,R.ext x1,g2,fun u Z2 H2 x2 n2=>⟨?_,fun t ht=>?_⟩⟩⟩
  · exact Nat.le_of_lt (small1000 (Nat.le_trans (by simp:([v,u]:List V).length≤2) (by decide)))
  · obtain ⟨b,vs,ds,rfl,rfl,hb0,hb1,hb2,r1⟩:=n1
    obtain ⟨c,us,es,rfl,rfl,hc0,hc1,hc2,r2⟩:=n2
    have hbc:b≠c:=fun z=>by subst z;rw [hb1] at hc0;cases hc0
    have hb3:H2 b=some (.lst vs):=x2.h _ _ hb1
    have hb4:Z2 b=none:=x2.fr b (by rw [hb1];simp) hb2
    have htb:t≠b:=fun z=>by subst z;rw [ht] at hb3;cases hb3
    have htc:t≠c:=fun z=>by subst z;rw [ht] at hc1;cases hc1
    have hz:Z2 t=none:=x2.zh.free ht
    have zt:∀ {Q:Hp},upd Q t (.tup [V.ref b,V.ref c]) t=some (.tup [V.ref b,V.ref c]):=upd_same
    have s0:Same Z2 (upd (upd (upd Z2 b (.lst vs)) c (.lst us)) t (.tup [.ref b,.ref c])):=by
      refine (smUpd hb4).trans ((smUpd ?_).trans (smUpd ?_))
      · rw [upd_ne (Ne.symm hbc)];exact hc2
      · rw [upd_ne htc,upd_ne htb];exact hz
    have s1:Same (upd (upd (upd Z2 b (.lst vs)) c (.lst us)) t (.tup [.ref b,.ref c])) (upd H2 t (.tup [.ref b,.ref c])):=by
      have q1:Same (upd (upd Z2 b (.lst vs)) c (.lst us)) H2:=smUpdL (smUpdL x2.zh hb3) hc1
      exact smUpd2 q1 ht
    have zb:upd (upd (upd Z2 b (.lst vs)) c (.lst us)) t (.tup [V.ref b,V.ref c]) b=some (.lst vs):=by rw [upd_ne (Ne.symm htb),upd_ne hbc,upd_same]
    have zc:upd (upd (upd Z2 b (.lst vs)) c (.lst us)) t (.tup [V.ref b,V.ref c]) c=some (.lst us):=by rw [upd_ne (Ne.symm htc),upd_same]
    have r1':=Reps.mono x2.z ds r1
    have hHb:H b=none:=hb0
    have hHc:H c=none:=x1.h.free hc0
    have w0:Same Z2 (wo (upd (upd (upd Z2 b (.lst vs)) c (.lst us)) t (.tup [.ref b,.ref c])) b c):=wo_of s0 hb4 hc2
    refine k _ (upd (upd (upd Z2 b (.lst vs)) c (.lst us)) t (.tup [.ref b,.ref c])) _ ⟨(x1.h.trans x2.h).trans (smUpd ht),(x1.z.trans x2.z).trans s0,s1,fun a ha hza=>?_⟩ ⟨?_,t,b,c,vs,us,ds,es,rfl,rfl,SqT.of upd_same,hHb,hHc,hbc,zb,zc,Reps.mono w0 ds r1',Reps.mono w0 es r2⟩
    · have hat:a≠t:=fun z=>by subst z;exact smSome (x1.h.trans x2.h) ha ht
      have hab:a≠b:=fun z=>by subst z;exact ha hHb
      have hac:a≠c:=fun z=>by subst z;exact ha hHc
      rw [upd_ne hat,upd_ne hac,upd_ne hab]
      exact x2.fr a (smSome x1.h ha) (x1.fr a ha hza)
    · exact ⟨t,_,rfl,SqT.of upd_same,Reps.cons ⟨b,vs,rfl,SqL.of zb,Reps.mono s0 ds r1'⟩ (Reps.one ⟨c,us,rfl,SqL.of zc,Reps.mono s0 es r2⟩)⟩
end
theorem Rl.setU2 {K:Fg} {B Z H:Hp} {env:En} {σ:L2.St} (R:Rl K B Z H env σ) (i:Nat) (x:Option V):Rl K B Z H (env.set i .un) (σ.set i x):=by
  have no:∀ {j:Nat} {ds:Own},(env.set i Slot.un)[j]?=some (.O ds)→i≠j:=fun {j ds} h z=>by
    subst z
    rcases Nat.lt_or_ge i env.length with hl | hl
    · rw [List.getElem?_set_self hl] at h;cases h
    · rw [List.getElem?_eq_none (by simpa using hl)] at h;cases h
  refine ⟨R.bh,R.zh,by simp [R.len],fun j s h=>?_,fun j ds a h h2=>?_,fun j k ds es a hne h1 h2 h3 h4=>?_⟩
  · by_cases hj:i=j
    · subst hj
      rcases Nat.lt_or_ge i env.length with hl | hl
      · rw [List.getElem?_set_self hl] at h;cases h
        exact ⟨x,List.getElem?_set_self (by rw [← R.len];exact hl),trivial⟩
      · rw [List.getElem?_eq_none (by simpa using hl)] at h;cases h
    · rw [List.getElem?_set_ne hj] at h ⊢;exact R.sl j s h
  · have n:=no h
    rw [List.getElem?_set_ne n] at h h2;exact R.ob j ds a h h2
  · have n1:=no h1
    have n2:=no h2
    rw [List.getElem?_set_ne n1] at h1 h3
    rw [List.getElem?_set_ne n2] at h2 h4
    exact R.ap j k ds es a hne h1 h2 h3 h4
def take2 (i j k:Nat) (fe:Fe) (f2 f4:Fb) (fr:Fs):Fs:=fun env=>(fe env).bind fun d=>match d with
  | .tup [.lst ds,.lst es]=>if i<env.length∧j<env.length∧k<env.length then
      (f2 (env.set i (.F (.tup [.lst ds,.lst es])))).bind fun b=>if b=true then some (.rt (.bl false)) else
      (f4 (((env.set i (.F (.tup [.lst ds,.lst es]))).set j (.F (.lst ds))).set k (.F (.lst es)))).bind fun b=>if b=true then some (.rt (.bl false)) else
      fr (((env.set i .un).set j (.O (.L ds))).set k (.O (.L es)))
    else none
  | _=>none
section
variable {X:Cx} {e t2 t4:Expr} {fe:Fe} {f2 f4:Fb} {fr:Fs} {rest:List Stmt} {x y z:Str} {n k1 k2:Nat} {pos px p1 p2 p3 p4 p5 p6 p7 p8 p9 pa pb:Pos} {c1 c2:Nat}
theorem ss_take2 (i j k:Nat) (hc:X.calm=true) (hN:X.N.Nodup) (he:PD X .n2 e fe) (h2:PB X t2 f2) (h4:PB X t4 f4) (hr:SsD X .cl rest fr) (hij:i≠j∧i≠k∧j≠k:=by decide)
    (hi:X.N[i]?=some x:=by rfl) (hj:X.N[j]?=some y:=by rfl) (hk:X.N[k]?=some z:=by rfl)
    (vi:Vis X.env.scope x:=by first | exact Or.inl rfl | exact Or.inr (Or.inl rfl) | exact Or.inr (Or.inr rfl))
    (li:Loc X.env.scope x:=by first | exact Or.inl rfl | exact Or.inr rfl) (lj:Loc X.env.scope y:=by first | exact Or.inl rfl | exact Or.inr rfl) (lk:Loc X.env.scope z:=by first | exact Or.inl rfl | exact Or.inr rfl)
    (fi:X.fn x=true∨X.env.scope.names.lookup x=some .local:=by first | exact .inl rfl | exact .inr rfl | assumption)
    (fj:X.fn y=true∨X.env.scope.names.lookup y=some .local:=by first | exact .inl rfl | exact .inr rfl | assumption)
    (fk:X.fn z=true∨X.env.scope.names.lookup z=some .local:=by first | exact .inl rfl | exact .inr rfl | assumption)
    (hd:(x==("__debug__":Str))=false:=by decide) (hcd:(x==("__classdict__":Str))=false:=by decide)
    (hs:swapsWith e (some (.Name x px)) pos.line X.env=pure false:=by rfl)
    (hn:(assignEach [.Name y p1,.Name z p2] X.env).length=2:=by rfl) (hst:(assignEach [.Name y p1,.Name z p2] X.env).findIdx? (·.1)=none:=by rfl)
    (ha1:(assignEach [.Name y p1,.Name z p2] X.env).map (·.2)=assign (.Name y p1) X.env::(assignEach [.Name z p2] X.env).map (·.2):=by rfl)
    (ha2:(assignEach [.Name z p2] X.env).map (·.2)=assign (.Name z p2) X.env::(assignEach [] X.env).map (·.2):=by rfl)
    (hs2:swapsWithSole [.Tuple [.Name y p1,.Name z p2] n p3] (.Name x p4) p5.line X.env=pure false:=by rfl) (hw:swappedStores [.Tuple [.Name y p1,.Name z p2] n p3] (.Name x p4) X.env=pure none:=by rfl)
    (h1:(assignEach [.Tuple [.Name y p1,.Name z p2] n p3] X.env).map (·.2)=[assign (.Tuple [.Name y p1,.Name z p2] n p3) X.env]:=by rfl) :
    SsD X .cl (.Assign [.Name x px] e pos::.If t2 [.Return (some (.Constant (.bool false) c1 p6)) p7] [] p8::.Assign [.Tuple [.Name y p1,.Name z p2] n p3] (.Name x p4) p5::.If t4 [.Return (some (.Constant (.bool false) c2 p9)) pa] [] pb::rest)
      (take2 i j k fe f2 f4 fr):=
  PSs.imp (pss_cons (ps_set hN hi li he hs fi) (pss_cons (ps_if h2 (pss_one (ps_ret pe_bl)) pss_nil) (pss_cons (ps_asg (pe_var hi vi hd hcd) (pg_tup hc (pgs_cons (pg_name hN hj lj fj) (pgs_cons (pg_name hN hk lk fk) pgs_nil ha2) ha1) hn hst) hs2 hw h1)
    (pss_cons (ps_if h4 (pss_one (ps_ret pe_bl)) pss_nil) hr)))) fun E σ H hq_=>by
  obtain ⟨env,B,Z,o,R,e,kk⟩:=hq_
  obtain ⟨d,g1,e⟩:=Option.bind_eq_some_iff.mp e
  try dsimp only at e
  split at e
  case h_2=>cases e
  rename_i ds es
  split at e
  case isFalse=>cases e
  rename_i hl
  obtain ⟨li1,lj1,lk1⟩:=hl
  obtain ⟨b2,g2,e⟩:=Option.bind_eq_some_iff.mp e
  refine ⟨env,B,Z,_,R,g1,fun v Z1 H1 x1 n1=>?_⟩
  obtain ⟨hrep,t,b,c,vs,us,ds',es',rfl,ed,hq,hb0,hc0,hbc,zb,zc,r1,r2⟩:=n1
  cases ed
  have R1:=(R.ext x1).setF i hrep
  have sm:Same (wo Z1 b c) Z1:=wo_same
  have bl:∀ {Z2 H2},Ex Z1 H1 Z2 H2→o=.rt (.bl false)→E.rt (.bl false) H2:=fun {Z2 H2} x2 eo=>by
    subst eo
    exact kk _ Z2 H2 ((x1.part R.bh).transB (x2.part (R.bh.trans x1.h))) rfl
  refine ⟨_,B,Z1,b2,R1,g2,fun Z2 H2 x2=>?_⟩
  cases b2 with
  | true=>rw [if_pos rfl] at e;cases e;exact iteT (bl x2 rfl)
  | false=>
    rw [if_neg (by simp)] at e
    refine iteF ?_
    obtain ⟨b4,g4,e⟩:=Option.bind_eq_some_iff.mp e
    refine ⟨.ref t,List.getElem?_set_self (by rw [← R.len];exact li1),t,[.ref b,.ref c],rfl,sameT (x2.z.trans x2.zh) hq,rfl,_,_,rfl,_,_,rfl,rfl,?_⟩
    have R3:=((R1.ext x2).setF j (d:=.lst ds) (v:=.ref b) ⟨b,vs,rfl,SqL.of (x2.z _ _ zb),Reps.mono (sm.trans x2.z) ds r1⟩).setF k (d:=.lst es) (v:=.ref c) ⟨c,us,rfl,SqL.of (x2.z _ _ zc),Reps.mono (sm.trans x2.z) es r2⟩
    refine ⟨_,B,Z2,b4,R3,g4,fun Z3 H3 x3=>?_⟩
    cases b4 with
    | true=>rw [if_pos rfl] at e;cases e;exact iteT (bl (x2.trans x3) rfl)
    | false=>
      rw [if_neg (by simp)] at e
      refine iteF ?_
      have sH:Same H H3:=(x1.h.trans x2.h).trans x3.h
      have hzb:Z b=none:=R.zh.free hb0
      have hzc:Z c=none:=R.zh.free hc0
      have xx:Ex Z H (wo Z1 b c) H3:=⟨sH,wo_of x1.z hzb hzc,(sm.trans x1.zh).trans (x2.h.trans x3.h),fun a ha hza=>by
        unfold wo
        split
        · rfl
        · exact x1.fr a ha hza⟩
      have oldne:∀ {p:Addr},H p=none→∀ (q:Nat) ws,env[q]?=some (.O ws)→σ[q]?≠some (some (.ref p)):=fun {p} hp q ws hq hz=>by
        obtain ⟨y,e4,a,us,e5,e6,_⟩:=R.sl q _ hq
        rw [hz] at e4;cases e4;cases e5
        rw [hp] at e6;cases e6
      have zb3:H3 b=some (.lst vs):=x3.h _ _ (x2.h _ _ (x1.zh _ _ zb))
      have zc3:H3 c=some (.lst us):=x3.h _ _ (x2.h _ _ (x1.zh _ _ zc))
      have R4:=(R.ext xx).setU2 i (some (.ref t))
      have R5:=R4.setO j (ds:=.L ds) (vs:=.lst vs) (R.bh.free hb0) wo_l zb3 ⟨vs,rfl,r1⟩ (fun q ws hq h1 h2=>by
        by_cases hz:i=q
        · subst hz;rw [List.getElem?_set_self li1] at h1;cases h1
        · rw [List.getElem?_set_ne hz] at h1 h2;exact oldne hb0 q ws h1 h2)
      have R6:=R5.setO k (ds:=.L es) (vs:=.lst us) (R.bh.free hc0) wo_r zc3 ⟨us,rfl,r2⟩ (fun q ws hq h1 h2=>by
        by_cases hw:j=q
        · subst hw
          rw [List.getElem?_set_self (by simpa [R.len] using (R.len▸lj1:j < σ.length))] at h2
          cases h2;exact hbc rfl
        · rw [List.getElem?_set_ne hw] at h1 h2
          by_cases hz:i=q
          · subst hz;rw [List.getElem?_set_self li1] at h1;cases h1
          · rw [List.getElem?_set_ne hz] at h1 h2;exact oldne hc0 q ws h1 h2)
      exact ⟨_,B,_,o,R6,e,kk.later (xx.part R.bh)⟩
end
def borE:List Nat→En→En
  | [],env=>env
  | i::is,env=>borE is (match env[i]? with | some (.O w)=>env.set i (.F w.d) | _=>env)
theorem Rl.bor {K:Fg} {B H:Hp} {σ:L2.St}:∀ (is:List Nat) {Z:Hp} {env:En},Rl K B Z H env σ→∃ Z',Rl K B Z' H (borE is env) σ∧Same Z Z'
  | [],Z,env,R=>⟨Z,R,Same.refl _⟩
  | i::is,Z,env,R=>by
    unfold borE
    split
    · rename_i w hi
      obtain ⟨Z',R',x⟩:=R.frz hi
      obtain ⟨Z2,R2,x2⟩:=Rl.bor is R'
      exact ⟨Z2,R2,x.z.trans x2⟩
    · exact Rl.bor is R
def borF (is:List Nat) (f:Fb):Fb:=fun env=>f (borE is env)
theorem b_bor {X:Cx} {e:Expr} {f:Fb} (is:List Nat) (h:PB X e f):PB X e (borF is f):=PT.imp h fun σ H Q hq_=>by
  obtain ⟨env,B,Z,b,R,e,k⟩:=hq_
  obtain ⟨Z',R',x⟩:=R.bor is
  exact ⟨_,B,Z',b,R',e,fun Z2 H2 y=>k Z H2 ⟨y.h,Same.refl _,R.zh.trans y.h,fun _ _ h=>h⟩⟩
end Mi
namespace Mi
open PySem PySem.Spec PyProof.Rows L2
theorem perm_lift {α β:Type} (f:α→β) {o l:List β} (h:o.Perm l):∀ {zs:List α},zs.map f=l→∃ ys:List α,ys.Perm zs∧ys.map f=o:=by
  induction h with
  | nil=>intro zs e;exact ⟨[],by rw [List.map_eq_nil_iff.mp e],rfl⟩
  | cons x _ ih=>
    intro zs e
    cases zs with
    | nil=>cases e
    | cons z zs=>
      rw [List.map_cons] at e
      obtain ⟨e1,e2⟩:=List.cons.inj e
      obtain ⟨ys,p,q⟩:=ih e2
      exact ⟨z::ys,p.cons z,by rw [List.map_cons,q,e1]⟩
  | swap x y l=>
    intro zs e
    match zs,e with
    | a::b::zs,e=>
      rw [List.map_cons,List.map_cons] at e
      obtain ⟨e1,e2⟩:=List.cons.inj e
      obtain ⟨e3,e4⟩:=List.cons.inj e2
      exact ⟨b::a::zs,List.Perm.swap a b zs,by rw [List.map_cons,List.map_cons,e1,e3,e4]⟩
  | trans _ _ ih1 ih2=>
    intro zs e
    obtain ⟨ys,p,q⟩:=ih2 e
    obtain ⟨xs,p2,q2⟩:=ih1 q
    exact ⟨xs,p2.trans p,q2⟩
theorem uniqI {α:Type} (f:α→Int):∀ {l1 l2:List α},l1.Perm l2→l1.Pairwise (fun x y=>f x≤f y)→l2.Pairwise (fun x y=>f x≤f y)→(l2.map f).Nodup→l1=l2
  | [],l2,p,_,_,_=>p.nil_eq
  | x::l1,[],p,_,_,_=>by have:=p.length_eq;simp at this
  | x::l1,y::l2,p,h1,h2,hn=>by
    rw [List.map_cons,List.nodup_cons] at hn
    obtain ⟨a1,a2⟩:=List.pairwise_cons.mp h1
    obtain ⟨b1,b2⟩:=List.pairwise_cons.mp h2
    have hx:x∈y::l2:=p.mem_iff.mp (List.mem_cons_self ..)
    have hy:y∈x::l1:=p.mem_iff.mpr (List.mem_cons_self ..)
    have e:x=y:=by
      rcases List.mem_cons.mp hx with e | hx
      · exact e
      · rcases List.mem_cons.mp hy with e | hy
        · exact e.symm
        · have:=a1 y hy
          have:=b1 x hx
          exact absurd (List.mem_map.mpr ⟨x,hx,(by omega:f x=f y)⟩) hn.1
    subst e
    rw [uniqI f (List.Perm.cons_inv p) a2 b2 hn.2]
section
variable {prog:Program} {w:World} {A:Around} {E:Value→Shared→Prop} {s:Shared}
theorem TupsK.len {h:Heap}:∀ {vs:List Value} {kss:List (List Key)},TupsK h vs kss→vs.length=kss.length
  | [],[],_=>rfl
  | [],_::_,t=>t.elim
  | _::_,[],t=>t.elim
  | _::_,_::_,t=>by rw [List.length_cons,List.length_cons,TupsK.len t.2]
theorem list_sort_w {a:Addr} {vs:List Value} {kss:List (List Key)} {n:Nat} {P:PySem.Fin→Shared→Prop} (numK:List Key→Int) (kf:Value→List Key) (ho:s.heap.get? a=some (seqObj "list" vs.toArray n))
    (ht:TupsK s.heap vs kss) (hh:kss.all headI=true) (hkf:vs.map kf=kss) (hlex:∀ x∈kss,∀ y∈kss,lexK x y=some (decide (numK x<numK y))) (hnd:(kss.map numK).Nodup) (hz:vs.length≤sizeLine)
    (h:∀ out:List Value,out.Perm vs→out.Pairwise (fun u v=>numK (kf u)≤numK (kf v))→P (.done (.ret .none)) { s with heap:=sortedHeap s.heap a vs out.toArray }) :
    wpAny (model prog w) A (Builtin.«list.sort» ⟨[.ref a],[]⟩) P E s:=by
  rw [list_sort_plain]
  have ha:a<s.heap.objs.size:=Heap.lt_size ho
  refine wpAny_bind (listItems_at ho rfl ?_)
  refine wpAny_bind (listUpdate_at ho rfl ?_ (by simpa using hz) (by simp))
  obtain ⟨e1,ho1⟩:∃ e1,(s.heap.update a (Obj.mapSeq fun _=>#[])).get? a=some (seqObj "list" #[] e1):=⟨_,get?_update_seq ho (fun _=>#[])⟩
  refine wpAny_bind (seqEpoch_at ho1 rfl ?_)
  refine wpAny_bind (wpAny_newTuple ?_)
  refine wpAny_bind (wpAny_newList ?_)
  refine wpAny_holding ?_
  have ho6:(((s.heap.update a (Obj.mapSeq fun _=>#[])).push (seqObj "tuple" vs.toArray 0)).push (seqObj "list" #[] 0)).get? a=some (seqObj "list" #[] e1):=by
    rw [Heap.get?_push_ne _ _ _ (by rw [size_push',Heap.size_update];exact Nat.ne_of_lt (Nat.lt_succ_of_lt ha)),Heap.get?_push_ne _ _ _ (by rw [Heap.size_update];exact Nat.ne_of_lt ha)]
    exact ho1
  show wpAny (model prog w) A _ P E { s with heap:=((s.heap.update a (Obj.mapSeq fun _=>#[])).push (seqObj "tuple" vs.toArray 0)).push (seqObj "list" #[] 0) }
  have ht2:TupsK (((s.heap.update a (Obj.mapSeq fun _=>#[])).push (seqObj "tuple" vs.toArray 0)).push (seqObj "list" #[] 0)) vs kss:=ht.keeps fun b o hb hc=>by
    refine Heap.get?_push_of_some _ (Heap.get?_push_of_some _ ?_)
    rw [Heap.get?_update_ne _ _ _ _ (fun z=>?_)]
    · exact hb
    · subst z;rw [ho] at hb;cases hb;injection (show Value.type "list"=Value.type "tuple" from hc) with e;exact absurd e (by decide)
  dsimp only
  have hsz:vs.toArray.size=vs.length:=by simp
  have hzl:(vs.toArray.zip vs.toArray).toList=vs.zip vs:=by simp
  by_cases h2:vs.toArray.size<2
  · have hmap:(vs.toArray.zip vs.toArray).map (·.2)=vs.toArray:=by
      apply Array.ext
      · simp
      · intro i h1 h2;simp
    have hp:vs.Pairwise (fun u v=>numK (kf u)≤numK (kf v)):=by
      rw [hsz] at h2
      match vs,h2 with
      | [],_=>exact .nil
      | [x],_=>exact List.pairwise_singleton _ _
    rw [if_pos h2,if_pos h2]
    refine wpAny_bind (wpAny_pure ?_)
    rw [StateT.run_pure]
    refine wpAny_bind (wpAny_pure ?_)
    dsimp only
    refine wpAny_bind (seqEpoch_at ho6 rfl ?_)
    refine wpAny_bind (listUpdate_at ho6 rfl ?_ (hsz2:=by rw [Array.size_map];rw [Array.size_zip,hsz,Nat.min_self];omega))
    simp only [bne_self_eq_false,Bool.false_eq_true,if_false]
    refine wpAny_pure ?_
    show P (.done (.ret .none)) { s with heap:=(((s.heap.update a (Obj.mapSeq fun _=>#[])).push (seqObj "tuple" vs.toArray 0)).push (seqObj "list" #[] 0)).update a (Obj.mapSeq fun _=>(vs.toArray.zip vs.toArray).map (·.2)) }
    rw [hmap];exact h vs (List.Perm.refl _) hp
  · rw [if_neg h2,if_neg h2]
    obtain ⟨fs,f1,f2,f3⟩:=ht2.firsts hh
    refine wpAny_bind (PySem.W.kat_kind (T:=.type "int") f1 (by omega) (fun v hv=>?_) (by simp) ?_)
    · obtain ⟨m,t,rfl⟩:=f3 v hv
      exact PySem.W.Looks.now
    rw [show (Value.type "int" != Value.type "tuple")=true by decide]
    have inz:∀ x,x∈(vs.toArray.zip vs.toArray).toList→x.1=x.2∧x.1∈vs:=fun x hx=>mem_zip_self (by rw [hzl] at hx;exact hx)
    have kin:∀ {i:Nat} {v:Value},vs[i]?=some v→kss[i]?=some (kf v):=fun {i v} e=>by rw [← hkf,List.getElem?_map,e];rfl
    refine wpAny_bind (wpAny_mono (Ts.wp_runs (num:=fun p=>numK (kf p.1)) (κ:=tuples' true) (a₀:=vs.toArray.zip vs.toArray) (st:=SortSt.mk' (tuples' true) (vs.toArray.zip vs.toArray) #[] 7 none)
      (Q:=fun _ st'=>failedOf st'=none∧(arrOf st').Perm (vs.toArray.zip vs.toArray)∧Ts.Srt (fun p=>numK (kf p.1)) (arrOf st').toList) ?lt ?ds rfl rfl rfl rfl fun st' b1 b2 b3=>⟨b1,b2,b3⟩) ?post fun _ _ e=>e)
    case ds=>
      show ((vs.toArray.zip vs.toArray).toList.map fun p=>numK (kf p.1)).Nodup
      rw [hzl,show (vs.zip vs).map (fun p=>numK (kf p.1))=((vs.zip vs).map Prod.fst).map fun v=>numK (kf v) by rw [List.map_map];rfl,List.map_fst_zip (Nat.le_refl _)]
      rw [← hkf,List.map_map] at hnd
      exact hnd
    case lt=>
      intro x hx y hy E' Q' hq
      obtain ⟨x1,x2⟩:=inz x hx
      obtain ⟨y1,y2⟩:=inz y hy
      obtain ⟨i,hi⟩:=List.mem_iff_getElem?.mp x2
      obtain ⟨j,hj⟩:=List.mem_iff_getElem?.mp y2
      obtain ⟨b,o,xs,k,ks,e3,c1,c2,c3,c4,c5⟩:=ht2.at hi
      obtain ⟨b',o',xs',k',ks',e4,d1,d2,d3,d4,d5⟩:=ht2.at hj
      have q1:kf x.1=ks:=by have:=kin hi;rw [c4] at this;cases this;rfl
      have q2:kf y.1=ks':=by have:=kin hj;rw [d4] at this;cases this;rfl
      subst q1;subst q2
      rw [e3,e4]
      refine PySem.W.kat_lt c1 c3 d1 d3 ?_
      have hd:decide (xs.size<xs'.size)=decide (xs.toList.length<xs'.toList.length):=by simp
      rw [hd]
      exact katK c5 d5 (hlex _ (List.mem_of_getElem? c4) _ (List.mem_of_getElem? d4)) (fun _=>⟨List.all_eq_true.mp hh _ (List.mem_of_getElem? c4),List.all_eq_true.mp hh _ (List.mem_of_getElem? d4)⟩) hq
    case post=>
      rintro ⟨⟨⟩,st'⟩ s' ⟨rfl,hf,hp,hs⟩
      dsimp only at hp hf hs ⊢
      have hpl:(arrOf st').toList.Perm (vs.zip vs):=by rw [← hzl];exact Array.perm_iff_toList_perm.mp hp
      have hall:∀ p∈(arrOf st').toList,p.1=p.2:=fun p hp'=>(mem_zip_self (hpl.mem_iff.mp hp')).1
      have hout:((arrOf st').map (·.2)).toList=(arrOf st').toList.map (·.1):=by
        rw [Array.toList_map];exact List.map_congr_left fun p hp'=>(hall p hp').symm
      have ho2:(arrOf st').map (·.2)=((arrOf st').toList.map (·.1)).toArray:=by
        rw [← hout]
      rw [hf]
      refine wpAny_bind (seqEpoch_at ho6 rfl ?_)
      refine wpAny_bind (listUpdate_at ho6 rfl ?_ (hsz2:=by rw [Array.size_map,hp.size_eq,Array.size_zip,hsz,Nat.min_self];omega))
      simp only [bne_self_eq_false,Bool.false_eq_true,if_false]
      refine wpAny_pure ?_
      have fin:=h ((arrOf st').toList.map (·.1)) (by
        have:=hpl.map Prod.fst
        rw [List.map_fst_zip (Nat.le_refl _)] at this
        exact this) (by rw [List.pairwise_map];exact hs)
      rw [← ho2] at fin
      exact fin
theorem sortedW {a:Addr} {o:Obj} {n:Nat} {vs:List Value} {kss:List (List Key)} {Q:Value→Shared→Prop} (numK:List Key→Int) (kf:Value→List Key) (ho:s.heap.get? a=some o) (hc:o.cls=.type "list"∨o.cls=.type "tuple") (hd:o.data=.seq vs.toArray n)
    (ht:TupsK s.heap vs kss) (hh:kss.all headI=true) (hkf:vs.map kf=kss) (hlex:∀ x∈kss,∀ y∈kss,lexK x y=some (decide (numK x<numK y))) (hnd:(kss.map numK).Nodup) (hz:vs.length≤sizeLine)
    (q:∀ out:List Value,out.Perm vs→out.Pairwise (fun u v=>numK (kf u)≤numK (kf v))→Q (.ref (s.heap.objs.size+1)) { s with heap:=sortedAll s.heap vs out.toArray }):wpAny (model prog w) A (call (.builtin "sorted") [.ref a]) Q E s:=by
  refine Calls.call_function_entry PyProof.Rows.kind_sorted plain_sorted entry_sorted (args_sorted1 _) ?_
  unfold Builtin.«sorted»
  refine wpAny_bind (m:=checkCount "sorted" 1 1 _) (wpAny_pure (wpAny_bind (collectS ho hc hd (wpAny_bind (wpAny_newList ?_)) hz)))
  have z1:((s.heap.push (seqObj "list" #[] 0)).update s.heap.objs.size (Obj.mapSeq (·++vs.toArray))).objs.size=s.heap.objs.size+1:=by rw [Heap.size_update,size_push']
  have z2:(((s.heap.push (seqObj "list" #[] 0)).update s.heap.objs.size (Obj.mapSeq (·++vs.toArray))).push (seqObj "list" vs.toArray 0)).get? (s.heap.objs.size+1)=some (seqObj "list" vs.toArray 0):=by
    rw [← z1];exact Heap.get?_push_size _ rfl
  show wpAny _ _ _ _ _ { s with heap:=((s.heap.push (seqObj "list" #[] 0)).update s.heap.objs.size (Obj.mapSeq (·++vs.toArray))).push (seqObj "list" vs.toArray 0) }
  rw [z1]
  have ht2:TupsK (((s.heap.push (seqObj "list" #[] 0)).update s.heap.objs.size (Obj.mapSeq (·++vs.toArray))).push (seqObj "list" vs.toArray 0)) vs kss:=ht.keeps fun b o hb hc=>by
    refine Heap.get?_push_of_some _ ?_
    rw [Heap.get?_update_ne _ _ _ _ (Nat.ne_of_lt (Heap.lt_size hb))]
    exact Heap.get?_push_of_some _ hb
  exact wpAny_bind (wpAny_holding (wpAny_call_entry slot_list_sort ⟨_,z2,rfl⟩ entry_list_sort (list_sort_w numK kf z2 ht2 hh hkf hlex hnd hz fun out h1 h2=>⟨_,rfl,wpAny_pure ⟨_,rfl,q out h1 h2⟩⟩) (args_list_sort _)))
end
def keysOf:List Value→List Key
  | []=>[]
  | .int n _::r=>.inl n::keysOf r
  | .str x _::r=>.inr x::keysOf r
  | _::r=>keysOf r
theorem KsAre.keys:∀ {vs:List Value} {ks:List Key},KsAre vs ks→keysOf vs=ks
  | _,_,.nil=>rfl
  | _,_,.int _ _ h=>by unfold keysOf;rw [KsAre.keys h]
  | _,_,.str _ _ h=>by unfold keysOf;rw [KsAre.keys h]
def keysAt (h:Heap):Value→List Key
  | .ref a=>match h.get? a with
    | some o=>match o.data with
      | .seq xs _=>keysOf xs.toList
      | _=>[]
    | none=>[]
  | _=>[]
theorem TupsK.kf {h:Heap}:∀ {vs:List Value} {kss:List (List Key)},TupsK h vs kss→vs.map (keysAt h)=kss
  | [],[],_=>rfl
  | [],_::_,t=>t.elim
  | _::_,[],t=>t.elim
  | v::vs,ks::kss,⟨⟨a,o,xs,n,e,h1,_,h3,r⟩,t⟩=>by
    rw [List.map_cons,TupsK.kf t]
    congr 1
    subst e
    show (match h.get? a with | some o=>(match o.data with | .seq xs _=>keysOf xs.toList | _=>[]) | none=>[])=ks
    rw [h1]
    show (match o.data with | .seq xs _=>keysOf xs.toList | _=>[])=ks
    rw [h3]
    exact r.keys
def numK:List Key→Int
  | [.inl r,.inl c,.inr w,.inl _]=>(r*4096+c)*2+(if w=Str.ofString "down" then 1 else 0)
  | _=>0
def goodK (l0:Int):List Key→Bool
  | [.inl _,.inl c,.inr w,.inl l]=>decide (0≤c)&&decide (c<4096)&&(decide (w=Str.ofString "along")||decide (w=Str.ofString "down"))&&decide (l=l0)
  | _=>false
def len0:List (List Key)→Int
  | [_,_,_,.inl l]::_=>l
  | _=>0
def okW (kss:List (List Key)):Bool:=kss.all (goodK (len0 kss))&&decide ((kss.map numK).Nodup)
theorem goodK_is {l0:Int} {x:List Key} (h:goodK l0 x=true):∃ r c w,x=[.inl r,.inl c,.inr w,.inl l0]∧0≤c∧c<4096∧(w=Str.ofString "along"∨w=Str.ofString "down"):=by
  unfold goodK at h
  split at h
  · simp only [Bool.and_eq_true,decide_eq_true_eq,Bool.or_eq_true] at h
    obtain ⟨⟨⟨x1,x2⟩,x3⟩,rfl⟩:=h
    exact ⟨_,_,_,rfl,x1,x2,x3⟩
  · cases h
theorem goodK_lex {l':Int}:∀ {x y:List Key},goodK l' x=true→goodK l' y=true→lexK x y=some (decide (numK x<numK y)):=by
  intro x y hx hy
  obtain ⟨r,c,w,rfl,x1,x2,x3⟩:=goodK_is hx
  obtain ⟨r',c',w',rfl,y1,y2,y3⟩:=goodK_is hy
  show (if (Sum.inl r:Key)=.inl r' then lexK [.inl c,.inr w,.inl l'] [.inl c',.inr w',.inl l'] else some (decide (r<r')))=some (decide ((r*4096+c)*2+(if w=Str.ofString "down" then 1 else 0)<(r'*4096+c')*2+(if w'=Str.ofString "down" then 1 else 0)))
  have z:∀ v:Str,(0:Int)≤(if v=Str.ofString "down" then 1 else 0)∧(if v=Str.ofString "down" then (1:Int) else 0)≤1:=fun v=>by split<;>omega
  have z1:=z w
  have z2:=z w'
  by_cases e1:r=r'
  · subst e1
    rw [if_pos rfl]
    show (if (Sum.inl c:Key)=.inl c' then lexK [.inr w,.inl l'] [.inr w',.inl l'] else some (decide (c<c')))=_
    by_cases e2:c=c'
    · subst e2
      rw [if_pos rfl]
      show (if (Sum.inr w:Key)=.inr w' then lexK [.inl l'] [.inl l'] else some (decide (w.cps.toList<w'.cps.toList)))=_
      by_cases e3:w=w'
      · subst e3
        rw [if_pos rfl]
        show (if (Sum.inl l':Key)=.inl l' then lexK [] [] else _)=_
        rw [if_pos rfl]
        show some false=_
        rw [decide_eq_false (by omega)]
      · rw [if_neg (fun q=>e3 (Sum.inr.inj q))]
        rcases x3 with rfl | rfl<;>rcases y3 with rfl | rfl
        · exact absurd rfl e3
        · rw [if_neg (by decide +kernel),if_pos rfl,decide_eq_true (by decide +kernel),decide_eq_true (by omega)]
        · rw [if_pos rfl,if_neg (by decide +kernel),decide_eq_false (by decide +kernel),decide_eq_false (by omega)]
        · exact absurd rfl e3
    · rw [if_neg (fun q=>e2 (Sum.inl.inj q))]
      congr 1
      by_cases g:c<c'
      · rw [decide_eq_true g,decide_eq_true (by omega)]
      · rw [decide_eq_false g,decide_eq_false (by omega)]
  · rw [if_neg (fun q=>e1 (Sum.inl.inj q))]
    congr 1
    by_cases g:r<r'
    · rw [decide_eq_true g,decide_eq_true (by omega)]
    · rw [decide_eq_false g,decide_eq_false (by omega)]
theorem goodK_head {l0:Int} {x:List Key} (h:goodK l0 x=true):headI x=true:=by
  unfold goodK at h
  split at h
  · rfl
  · cases h
def numD:D→Int
  | .tup xs=>match unKey xs with | some ks=>numK ks | none=>0
  | _=>0
def srtW (ds:List D):List D:=ds.mergeSort fun x y=>decide (numD x≤numD y)
def sortW:D→Option D
  | .lst ds=>(unKeys ds).bind fun kss=>if okW kss=true then some (.lst (srtW ds)) else none
  | _=>none
theorem srtW_perm (ds:List D):(srtW ds).Perm ds:=List.mergeSort_perm _ _
theorem srtW_up (ds:List D):(srtW ds).Pairwise fun x y=>numD x≤numD y:=by
  have:=List.pairwise_mergeSort (le:=fun x y=>decide (numD x≤numD y)) (fun a b c h1 h2=>by simp at *;omega) (fun a b=>by simp;omega) ds
  exact this.imp fun h=>by simpa using h
theorem numD_tup {xs:List D} {ks:List Key} (h:unKey xs=some ks):numD (.tup xs)=numK ks:=by
  show (match unKey xs with | some ks=>numK ks | none=>0)=_
  rw [h]
theorem unKeys_num:∀ {ds:List D} {kss:List (List Key)},unKeys ds=some kss→ds.map numD=kss.map numK
  | [],_,h=>by cases h;rfl
  | d::ds,kss,h=>by
    cases d<;>try cases h
    obtain ⟨ks,e1,h⟩:=Option.bind_eq_some_iff.mp h
    obtain ⟨kss',e2,h⟩:=Option.bind_eq_some_iff.mp h
    cases h
    rw [List.map_cons,List.map_cons,unKeys_num e2]
    rw [numD_tup e1]
section
variable {X:Cx} {l r:Expr} {fa fb:Fe} {ga gb:Gr} {pos p:Pos}
def rSortW (K:Fg):List V→Hp→VK→Prop:=fun xs H Q=>∃ (a:Addr) (vs:List V) (kss:List (List Key)),xs=[.ref a]∧SqL K H a vs∧KTs K H vs kss∧okW kss=true∧
  ∀ zs:List (V×List Key),zs.Perm (vs.zip kss)→zs.Pairwise (fun x y=>numK x.2≤numK y.2)→∀ q,H q=none→Q (.ref q) (upd H q (.lst (zs.map Prod.fst)))
theorem vals_map:∀ {ys:List (Value×V×List Key)},(∀ y∈ys,RelV y.2.1 y.1)→Vals (ys.map fun y=>y.2.1) (ys.map Prod.fst)
  | [],_=>.nil
  | y::ys,h=>.cons (h y (List.mem_cons_self ..)) (vals_map fun z hz=>h z (List.mem_cons_of_mem _ hz))
theorem call_sortedW:CallR X (.builtin "sorted") (rSortW X.K):=by
  intro pins s σ H xs us Q I rs h
  obtain ⟨a,vs,kss,rfl,hq,ht,hw,q⟩:=h
  obtain ⟨u,rfl,rx⟩:=vals1 rs
  cases rx
  obtain ⟨its,rv,pl,hz⟩:=I.list hq
  obtain ⟨o,ho,hc,n,hd⟩:=pl.isList
  have hl:=rv.length
  have tk:=ht.heap I rv
  have kl:=tk.len
  unfold okW at hw
  rw [Bool.and_eq_true,decide_eq_true_eq] at hw
  have hg:∀ x∈kss,goodK (len0 kss) x=true:=List.all_eq_true.mp hw.1
  refine sortedW numK (keysAt s.heap) ho (.inl hc) hd tk (List.all_eq_true.mpr fun x hx=>goodK_head (hg x hx)) tk.kf (fun x hx y hy=>goodK_lex (hg x hx) (hg y hy)) hw.2 (by omega) fun out p1 p2=>?_
  obtain ⟨e,he⟩:=sortedAll_at s.heap its out.toArray
  have hzl:(vs.zip kss).length=its.length:=by rw [List.length_zip];omega
  obtain ⟨ys,y1,y2⟩:=perm_lift Prod.fst p1 (zs:=its.zip (vs.zip kss)) (List.map_fst_zip (by omega))
  have mem:∀ y∈ys,RelV y.2.1 y.1∧keysAt s.heap y.1=y.2.2:=fun y hy=>by
    obtain ⟨i,hi⟩:=List.mem_iff_getElem?.mp (y1.mem_iff.mp hy)
    obtain ⟨h1,h2⟩:=List.getElem?_zip_eq_some.mp hi
    obtain ⟨h3,h4⟩:=List.getElem?_zip_eq_some.mp h2
    obtain ⟨u,h5,h6⟩:=Vals.get rv h3
    rw [h1] at h5;cases h5
    have h7:=tk.kf
    rw [← h7,List.getElem?_map,h1] at h4
    exact ⟨h6,by simpa using h4⟩
  have v2:Vals ((ys.map Prod.snd).map Prod.fst) out:=by
    have:=vals_map fun y hy=>(mem y hy).1
    rw [y2] at this
    rw [List.map_map];exact this
  have hlo:out.length=its.length:=p1.length_eq
  refine ⟨.ref _,_,I.laid (t':=s.toks) (o:=.lst ((ys.map Prod.snd).map Prod.fst)) (fun b o z=>sortedAll_old z) (Nat.le_succ _) ⟨by rw [v2.length];omega,out,e,v2,by simpa using he⟩,rfl,q (ys.map Prod.snd) ?_ ?_ _ (I.hok.fresh (Nat.le_succ _))⟩
  · have:=y1.map Prod.snd
    rw [List.map_snd_zip (by omega)] at this
    exact this
  · rw [List.pairwise_map]
    rw [← y2,List.pairwise_map] at p2
    refine List.Pairwise.imp_of_mem (fun {x y} hx hy h=>?_) p2
    rw [(mem x hx).2,(mem y hy).2] at h
    exact h
theorem unKeys_zip:∀ {ds:List D} {kss:List (List Key)},unKeys ds=some kss→ds.length=kss.length∧∀ z∈ds.zip kss,numD z.1=numK z.2
  | [],_,h=>by cases h;exact ⟨rfl,fun z hz=>by cases hz⟩
  | d::ds,kss,h=>by
    cases d<;>try cases h
    obtain ⟨ks,e1,h⟩:=Option.bind_eq_some_iff.mp h
    obtain ⟨kss',e2,h⟩:=Option.bind_eq_some_iff.mp h
    cases h
    obtain ⟨h1,h2⟩:=unKeys_zip e2
    refine ⟨by rw [List.length_cons,List.length_cons,h1],fun z hz=>?_⟩
    rw [List.zip_cons_cons] at hz
    rcases List.mem_cons.mp hz with rfl | hz
    · exact numD_tup e1
    · exact h2 z hz
theorem reps_map {K:Fg} {Z:Hp}:∀ {ys:List (D×V×List Key)},(∀ y∈ys,Rep K Z y.1 y.2.1)→Reps K Z (ys.map Prod.fst) (ys.map fun y=>y.2.1)
  | [],_=>rfl
  | y::ys,h=>Reps.cons (h y (List.mem_cons_self ..)) (reps_map fun z hz=>h z (List.mem_cons_of_mem _ hz))
theorem d_sortW {K:Fg}:Does1 K .nw sortW (rSortW K):=fun {Z H x dx d Q} s h e k=>by
  cases dx<;>try cases e
  rename_i ds
  obtain ⟨kss,h1,h2⟩:=Option.bind_eq_some_iff.mp e
  obtain ⟨hl,rfl⟩:=ifS h2
  obtain ⟨a,vs,rfl,q,rr⟩:=h.lst s
  obtain ⟨kl,kz⟩:=unKeys_zip h1
  have vl:=rr.len
  refine ⟨a,vs,kss,rfl,q,(KTs.of h1 rr).mono s,hl,fun zs p1 p2 p hp=>?_⟩
  have zl:(vs.zip kss).length=ds.length:=by rw [List.length_zip];omega
  obtain ⟨ys,y1,y2⟩:=perm_lift Prod.snd p1 (zs:=ds.zip (vs.zip kss)) (List.map_snd_zip (by omega))
  have mem:∀ y∈ys,Rep K Z y.1 y.2.1∧numD y.1=numK y.2.2:=fun y hy=>by
    obtain ⟨i,hi⟩:=List.mem_iff_getElem?.mp (y1.mem_iff.mp hy)
    obtain ⟨g1,g2⟩:=List.getElem?_zip_eq_some.mp hi
    obtain ⟨g3,g4⟩:=List.getElem?_zip_eq_some.mp g2
    obtain ⟨u,g5,g6⟩:=rr.get g1
    rw [g3] at g5;cases g5
    exact ⟨g6,kz (y.1,y.2.2) (List.mem_of_getElem? (List.getElem?_zip_eq_some.mpr ⟨g1,g4⟩))⟩
  have e1:ys.map Prod.fst=srtW ds:=by
    unfold okW at hl
    rw [Bool.and_eq_true,decide_eq_true_eq] at hl
    have pp:=y1.map Prod.fst
    rw [List.map_fst_zip (by omega)] at pp
    refine uniqI numD (pp.trans (srtW_perm ds).symm) ?_ (srtW_up ds) ?_
    · rw [List.pairwise_map]
      rw [← y2,List.pairwise_map] at p2
      refine List.Pairwise.imp_of_mem (fun {x y} hx hy h=>?_) p2
      rw [(mem x hx).2,(mem y hy).2]
      exact h
    · rw [(((srtW_perm ds).map numD).nodup_iff),unKeys_num h1]
      exact hl.2
  have e2:zs.map Prod.fst=ys.map fun y=>y.2.1:=by rw [← y2,List.map_map];rfl
  exact k _ Z _ (Ex.newL s hp) ⟨p,_,_,rfl,rfl,hp,upd_same,s.free hp,by rw [e2,← e1];exact reps_map fun y hy=>(mem y hy).1⟩
theorem m_sortW (hm:X.mg "sorted"=none) (ha:PD X ga l fa) (hg:Gl X "sorted":=by rfl) (he:starEach [l] X.env=[(false,eval l X.env)]:=by rfl):PD X .nw (.Call (.Name "sorted" p) [l] [] pos) (un1 sortW fa):=
  m_bi1 call_sortedW d_sortW PyProof.Rows.boot_sorted hm ha (by decide) (by decide) hg he
end
end Mi
namespace Mi
open PySem PySem.Spec PyProof.Rows L2
theorem ar1 {α:Type} {p:List α→Prop} (h:∀ a,p [a]):∀ us:List α,us.length=1→p us
  | [a],_=>h a
theorem ar2 {α:Type} {p:List α→Prop} (h:∀ a b,p [a,b]):∀ us:List α,us.length=2→p us
  | [a,b],_=>h a b
theorem ar3 {α:Type} {p:List α→Prop} (h:∀ a b c,p [a,b,c]):∀ us:List α,us.length=3→p us
  | [a,b,c],_=>h a b c
theorem ar4 {α:Type} {p:List α→Prop} (h:∀ a b c d,p [a,b,c,d]):∀ us:List α,us.length=4→p us
  | [a,b,c,d],_=>h a b c d
abbrev AtF (K:Fg) (x:Str) (st:Stmt) (f:Addr):Prop:=∃ (oc kV dc pm cd ct:Value) (od an:Option Addr) (sl:Array (Option Value)),PySem.W.nsIn K mainGlobals x=some (some (.ref f))∧K.lookup f=some ⟨oc,od,.func (PySem.W.fnOf x x (defArgs st) (defBody st) (defScope st) .none kV dc pm an cd ct),sl⟩∧PySem.W.codeIn K cd x=true∧PySem.W.keepIn K (.ref f)=true
section
variable {K:Fg} {h:Heap} {mg:Str→Option Value} {x:Str} {st:Stmt} {f:Addr}
theorem AtF.fn (A:AtF K x st f) (X:K.In h) (G:h.Ns mainGlobals mg):∃ fd,Fun K x x st f fd∧PySem.W.keepIn K (.ref f)=true∧mg x=some (.ref f):=by
  obtain ⟨_,_,_,_,_,_,_,_,_,a,l,c,k⟩:=A
  exact ⟨_,fun_mk l c k,k,PySem.W.mg_of X G a⟩
theorem at_mk {oc kV dc pm cd ct:Value} {od an:Option Addr} {sl:Array (Option Value)} (a:PySem.W.nsIn K mainGlobals x=some (some (.ref f))) (l:K.lookup f=some ⟨oc,od,.func (PySem.W.fnOf x x (defArgs st) (defBody st) (defScope st) .none kV dc pm an cd ct),sl⟩) (c:PySem.W.codeIn K cd x=true) (k:PySem.W.keepIn K (.ref f)=true):AtF K x st f:=⟨_,_,_,_,_,_,_,_,_,a,l,c,k⟩
variable {P:Program} {w:World} {base:Heap} {d n:Nat} {g:Gr} {m:List D→Option D} {fd:FuncData} {ps:List Str}
theorem cal_of (O:FnOk P w K mg base CX0 d f fd ps (spD K n g m)) (hk:PySem.W.keepIn K (.ref f)=true) (hm:mg x=some (.ref f)) (hb:Binds K fd ps []) (hn:ps.length=n:=by rfl):∀ j,d≤j→Cal P w K mg base j x n g m:=
  fun _ hj=>⟨f,fd,ps,hn,O.mono hj,hm,hk,hb⟩
end
end Mi
namespace K22
open PySem Mi
def F__law_stir :Fs:=(seqF (setF 2 (op2 mulI (op2 addI (op2 addI (op2 modI (fun env=>getF env 0) (op2 powI (fC (.int 10)) (fC (.int 60)))) (op2 mulI (fC (.int 7919)) (fun env=>getF env 1))) (fC (.int 1))) (fC (.int 27182818284590452353602874713527)))) (seqF (setF 2 (op2 modI (fun env=>getF env 2) (fC (.int 170141183460469231731687303715884105727)))) (retF (op2 fdivI (op2 modI (op2 powI (op2 addI (op2 powI (fun env=>getF env 2) (fC (.int 5))) (op2 mulI (fC (.int 48271)) (fun env=>getF env 1))) (fC (.int 3))) (fC (.int 162259276829213363391578010288127))) (fC (.int 7))))))
def m__law_stir:List D→Option D:=runF (F__law_stir ) 3
def B__law_drawn_1 (q__law_stir:List D→Option D):Fs:=(ifF (orB (fB (op2 ltI (fun env=>getF env 0) (op2 powI (fC (.int 10)) (fC (.int 18))))) (fB (op2 eqF (fun env=>getF env 3) (fC (.int 0))))) (appF 2 (op2 modI (fun env=>((fCons (fun env=>getF env 0) (fCons (fun env=>getF env 4) fNil)) env).bind q__law_stir) (op2 idxD (fun env=>getF env 1) (fun env=>getF env 4)))) (seqF (appF 2 (op2 modI (fun env=>getF env 3) (op2 idxD (fun env=>getF env 1) (fun env=>getF env 4)))) (setF 3 (op2 fdivI (fun env=>getF env 3) (op2 idxD (fun env=>getF env 1) (fun env=>getF env 4))))))
def F__law_drawn (q__law_stir:List D→Option D):Fs:=(seqF (setO 2 (fLst fNil)) (seqF (setF 3 (fun env=>getF env 0)) (seqF (forF (itR1 (un1 lenD (fun env=>getF env 1))) (tgN 4) (B__law_drawn_1 q__law_stir)) (retO 2))))
def m__law_drawn:List D→Option D:=runF (F__law_drawn m__law_stir) 5
def F__law_sizes (q__law_drawn:List D→Option D):Fs:=(seqF (unL [1,2,3,4,5,6] (fun env=>((fCons (fun env=>getF env 0) (fCons (fLst (fCons (fC (.int 6)) (fCons (fC (.int 60)) (fCons (fC (.int 60)) (fCons (fC (.int 60)) (fCons (fC (.int 6)) (fCons (fC (.int 12)) fNil))))))) fNil)) env).bind q__law_drawn)) (seqF (ifF (fB (op2 ltI (fun env=>getF env 1) (fC (.int 2)))) (retF (fTup (fCons (op2 addI (fC (.int 1)) (op2 modI (fun env=>getF env 2) (fC (.int 12)))) (fCons (op2 addI (fC (.int 1)) (op2 modI (fun env=>getF env 3) (fC (.int 12)))) (fCons (op2 addI (fC (.int 1)) (op2 modI (fun env=>getF env 4) (fC (.int 6)))) fNil))))) nxF) (seqF (ifF (fB (op2 eqF (fun env=>getF env 1) (fC (.int 2)))) (retF (fTup (fCons (op2 addI (fC (.int 1)) (fun env=>getF env 2)) (fCons (op2 addI (fC (.int 1)) (fun env=>getF env 3)) (fCons (op2 addI (fC (.int 1)) (fun env=>getF env 4)) fNil))))) nxF) (seqF (setF 4 (op2 addI (fC (.int 1)) (op2 modI (fun env=>getF env 4) (fC (.int 15))))) (seqF (ifF (fB (op2 eqF (fun env=>getF env 1) (fC (.int 3)))) (retF (fTup (fCons (op2 addI (fC (.int 1)) (fun env=>getF env 2)) (fCons (op2 addI (fC (.int 1)) (fun env=>getF env 3)) (fCons (fun env=>getF env 4) fNil))))) nxF) (seqF (setF 7 (op2 minI (fC (.int 60)) (op2 addI (op2 mulI (fun env=>getF env 4) (op2 addI (fC (.int 1)) (op2 modI (fun env=>getF env 5) (fC (.int 3))))) (op2 modI (fun env=>getF env 2) (fun env=>getF env 4))))) (seqF (setF 8 (op2 minI (fC (.int 60)) (op2 addI (op2 mulI (fun env=>getF env 4) (op2 addI (fC (.int 1)) (op2 modI (fun env=>getF env 6) (fC (.int 3))))) (op2 modI (fun env=>getF env 3) (fun env=>getF env 4))))) (retF (fTup (fCons (fun env=>getF env 7) (fCons (op2 idxD (fLst (fCons (fun env=>getF env 8) (fCons (op2 addI (fC (.int 1)) (op2 modI (fun env=>getF env 3) (fun env=>getF env 4))) fNil))) (op2 subI (fun env=>getF env 1) (fC (.int 4)))) (fCons (fun env=>getF env 4) fNil))))))))))))
def m__law_sizes:List D→Option D:=runF (F__law_sizes m__law_drawn) 9
def F_all_cells :Fs:=(seqF (unF [1,2] (fun env=>getF env 0)) (retF (compF (itR1 (fun env=>getF env 1)) [0] (tgN 0) (fun _=>some true) (moreF (itR1 (fun env=>getF env 2)) [1] (tgN 1) (fun _=>some true) (emitF (fTup (fCons (fun env=>getF env 0) (fCons (fun env=>getF env 1) fNil))))) 2 [2])))
def m_all_cells:List D→Option D:=runF (F_all_cells ) 3
def F_net_cells (q_all_cells:List D→Option D):Fs:=(seqF (setF 3 (iteFn (fB (op2 leI (fun env=>getF env 2) (fun env=>getF env 0))) (fC (.int 1)) (fC (.int 0)))) (seqF (setF 4 (iteFn (fB (op2 leI (fun env=>getF env 2) (fun env=>getF env 1))) (fC (.int 1)) (fC (.int 0)))) (seqF (setF 5 (fun env=>((fCons (fTup (fCons (fun env=>getF env 0) (fCons (fun env=>getF env 1) fNil))) fNil) env).bind q_all_cells)) (retF (compF (itL (fun env=>getF env 5)) [0,1] (tgT [0,1]) (fB (op2 eqF (op2 modI (op2 addI (op2 mulI (fun env=>getF env 0) (fun env=>getF env 2)) (op2 mulI (fun env=>getF env 1) (fun env=>getF env 3))) (fun env=>getF env 4)) (op2 subI (fun env=>getF env 4) (fC (.int 1))))) (emitF (fTup (fCons (fun env=>getF env 0) (fCons (fun env=>getF env 1) fNil)))) 2 [3,4,2])))))
def m_net_cells:List D→Option D:=runF (F_net_cells m_all_cells) 6
def F_needs_ring :Fs:=(retF (andF (op2 leI (fun env=>getF env 2) (op2 minI (fun env=>getF env 0) (fun env=>getF env 1))) (op2 gtI (op2 addI (op2 modI (fun env=>getF env 0) (fun env=>getF env 2)) (op2 modI (fun env=>getF env 1) (fun env=>getF env 2))) (fun env=>getF env 2))))
def m_needs_ring:List D→Option D:=runF (F_needs_ring ) 3
def F_lot_of :Fs:=(seqF (unF [4,5] (fun env=>getF env 0)) (seqF (unF [6,7] (fun env=>getF env 1)) (seqF (ifF (fB (op2 eqF (fun env=>getF env 2) (fC (.str (Str.ofString "along"))))) (setF 8 (compF (itR1 (fun env=>getF env 6)) [0] (tgN 0) (fun _=>some true) (moreF (itR3 (fC (.int 0)) (op2 addI (op2 subI (fun env=>getF env 2) (fun env=>getF env 3)) (fC (.int 1))) (fun env=>getF env 3)) [1] (tgN 1) (fun _=>some true) (emitF (fTup (fCons (fun env=>getF env 0) (fCons (fun env=>getF env 1) fNil))))) 2 [7,3])) (setF 8 (compF (itR3 (fC (.int 0)) (op2 addI (op2 subI (fun env=>getF env 6) (fun env=>getF env 3)) (fC (.int 1))) (fun env=>getF env 3)) [0] (tgN 0) (fun _=>some true) (moreF (itR1 (fun env=>getF env 2)) [1] (tgN 1) (fun _=>some true) (emitF (fTup (fCons (fun env=>getF env 0) (fCons (fun env=>getF env 1) fNil))))) 2 [7]))) (retF (compF (itL (fun env=>getF env 8)) [0,1] (tgT [0,1]) (fun _=>some true) (emitF (fTup (fCons (op2 addI (fun env=>getF env 2) (fun env=>getF env 0)) (fCons (op2 addI (fun env=>getF env 3) (fun env=>getF env 1)) (fCons (fun env=>getF env 4) (fCons (fun env=>getF env 5) fNil)))))) 2 [4,5,2,3])))))
def m_lot_of:List D→Option D:=runF (F_lot_of ) 9
def F_ring_ships (q_lot_of:List D→Option D):Fs:=(seqF (unF [3,4] (fTup (fCons (op2 modI (fun env=>getF env 0) (fun env=>getF env 2)) (fCons (op2 modI (fun env=>getF env 1) (fun env=>getF env 2)) fNil)))) (seqF (unF [5,6] (fTup (fCons (op2 subI (op2 subI (fun env=>getF env 0) (fun env=>getF env 2)) (fun env=>getF env 3)) (fCons (op2 subI (op2 subI (fun env=>getF env 1) (fun env=>getF env 2)) (fun env=>getF env 4)) fNil)))) (seqF (setO 7 (fun env=>((fCons (fTup (fCons (fC (.int 0)) (fCons (fC (.int 0)) fNil))) (fCons (fTup (fCons (fun env=>getF env 5) (fCons (fun env=>getF env 1) fNil))) (fCons (fC (.str (Str.ofString "down"))) (fCons (fun env=>getF env 2) fNil)))) env).bind q_lot_of)) (seqF (extF 7 (fun env=>((fCons (fTup (fCons (fun env=>getF env 5) (fCons (fC (.int 0)) fNil))) (fCons (fTup (fCons (op2 addI (fun env=>getF env 2) (fun env=>getF env 3)) (fCons (fun env=>getF env 6) fNil))) (fCons (fC (.str (Str.ofString "along"))) (fCons (fun env=>getF env 2) fNil)))) env).bind q_lot_of)) (seqF (extF 7 (fun env=>((fCons (fTup (fCons (fun env=>getF env 5) (fCons (fun env=>getF env 6) fNil))) (fCons (fTup (fCons (fun env=>getF env 3) (fCons (fun env=>getF env 2) fNil))) (fCons (fC (.str (Str.ofString "along"))) (fCons (fun env=>getF env 2) fNil)))) env).bind q_lot_of)) (seqF (extF 7 (fun env=>((fCons (fTup (fCons (fun env=>getF env 5) (fCons (op2 addI (fun env=>getF env 6) (fun env=>getF env 2)) fNil))) (fCons (fTup (fCons (fun env=>getF env 2) (fCons (fun env=>getF env 4) fNil))) (fCons (fC (.str (Str.ofString "down"))) (fCons (fun env=>getF env 2) fNil)))) env).bind q_lot_of)) (seqF (extF 7 (fun env=>((fCons (fTup (fCons (op2 addI (fun env=>getF env 5) (fun env=>getF env 2)) (fCons (op2 addI (fun env=>getF env 6) (fun env=>getF env 4)) fNil))) (fCons (fTup (fCons (fun env=>getF env 3) (fCons (fun env=>getF env 2) fNil))) (fCons (fC (.str (Str.ofString "along"))) (fCons (fun env=>getF env 2) fNil)))) env).bind q_lot_of)) (seqF (extF 7 (fun env=>((fCons (fTup (fCons (op2 addI (fun env=>getF env 5) (fun env=>getF env 3)) (fCons (fun env=>getF env 6) fNil))) (fCons (fTup (fCons (fun env=>getF env 2) (fCons (fun env=>getF env 4) fNil))) (fCons (fC (.str (Str.ofString "down"))) (fCons (fun env=>getF env 2) fNil)))) env).bind q_lot_of)) (retO 7)))))))))
def m_ring_ships:List D→Option D:=runF (F_ring_ships m_lot_of) 8
def F_apart_ships (q_needs_ring:List D→Option D) (q_ring_ships:List D→Option D) (q_lot_of:List D→Option D):Fs:=(seqF (ifF (fB (fun env=>((fCons (fun env=>getF env 0) (fCons (fun env=>getF env 1) (fCons (fun env=>getF env 2) fNil))) env).bind q_needs_ring)) (retF (fun env=>((fCons (fun env=>getF env 0) (fCons (fun env=>getF env 1) (fCons (fun env=>getF env 2) fNil))) env).bind q_ring_ships)) nxF) (seqF (setF 3 (op2 subI (fun env=>getF env 1) (op2 modI (fun env=>getF env 1) (fun env=>getF env 2)))) (seqF (setF 4 (fun env=>((fCons (fTup (fCons (fC (.int 0)) (fCons (fC (.int 0)) fNil))) (fCons (fTup (fCons (fun env=>getF env 0) (fCons (fun env=>getF env 3) fNil))) (fCons (fC (.str (Str.ofString "along"))) (fCons (fun env=>getF env 2) fNil)))) env).bind q_lot_of)) (retF (op2 addL (fun env=>getF env 4) (fun env=>((fCons (fTup (fCons (fC (.int 0)) (fCons (fun env=>getF env 3) fNil))) (fCons (fTup (fCons (fun env=>getF env 0) (fCons (op2 subI (fun env=>getF env 1) (fun env=>getF env 3)) fNil))) (fCons (fC (.str (Str.ofString "down"))) (fCons (fun env=>getF env 2) fNil)))) env).bind q_lot_of))))))
def m_apart_ships:List D→Option D:=runF (F_apart_ships m_needs_ring m_ring_ships m_lot_of) 5
def F_net_of (q_net_cells:List D→Option D) (q_apart_ships:List D→Option D):Fs:=(retF (fTup2 (fun env=>((fCons (fun env=>getF env 0) (fCons (fun env=>getF env 1) (fCons (fun env=>getF env 2) fNil))) env).bind q_net_cells) (un1 sortW (fun env=>((fCons (fun env=>getF env 0) (fCons (fun env=>getF env 1) (fCons (fun env=>getF env 2) fNil))) env).bind q_apart_ships))))
def m_net_of:List D→Option D:=runF (F_net_of m_net_cells m_apart_ships) 3
def B__law_runs_1 :Fs:=(appF 3 (compF (itR1 (fun env=>getF env 2)) [0] (tgN 0) (fun _=>some true) (emitF (fTup (fCons (fun env=>getF env 1) (fCons (op2 addI (fun env=>getF env 2) (fun env=>getF env 0)) fNil)))) 1 [4,5]))
def B__law_runs_2 :Fs:=(forF (itR1 (op2 addI (op2 subI (fun env=>getF env 1) (fun env=>getF env 2)) (fC (.int 1)))) (tgN 5) (B__law_runs_1 ))
def B__law_runs_3 :Fs:=(appF 3 (compF (itR1 (fun env=>getF env 2)) [0] (tgN 0) (fun _=>some true) (emitF (fTup (fCons (op2 addI (fun env=>getF env 1) (fun env=>getF env 0)) (fCons (fun env=>getF env 2) fNil)))) 1 [4,5]))
def B__law_runs_4 :Fs:=(forF (itR1 (fun env=>getF env 1)) (tgN 5) (B__law_runs_3 ))
def F__law_runs :Fs:=(seqF (setO 3 (fLst fNil)) (seqF (forF (itR1 (fun env=>getF env 0)) (tgN 4) (B__law_runs_2 )) (seqF (forF (itR1 (op2 mulI (op2 addI (op2 subI (fun env=>getF env 0) (fun env=>getF env 2)) (fC (.int 1))) (un1 intD (op2 gtI (fun env=>getF env 2) (fC (.int 1)))))) (tgN 4) (B__law_runs_4 )) (retO 3))))
def m__law_runs:List D→Option D:=runF (F__law_runs ) 6
def B__law_is_net_1 :Fs:=(ifF (fB (op2 eqF (compF (itL (fun env=>getF env 5)) [0] (tgN 0) (fB (op2 (inQ false) (fun env=>getF env 0) (fun env=>getF env 1))) (emitF (fun env=>getF env 0)) 1 [4]) (fLst fNil))) (retF (fC (.bl false))) nxF)
def F__law_is_net (q__law_runs:List D→Option D):Fs:=(seqF (setF 4 (un1 dictQ (compF (itL (fun env=>getF env 3)) [0] (tgN 0) (fun _=>some true) (emitF (fTup (fCons (fun env=>getF env 0) (fCons (fC (.bl true)) fNil)))) 1 []))) (seqF (ifF (fB (op2 neF (un1 lenQ' (fun env=>getF env 4)) (un1 lenD (fun env=>getF env 3)))) (retF (fC (.bl false))) nxF) (seqF (ifF (fB (op2 neF (compF (itL (fun env=>getF env 3)) [0] (tgN 0) (notB (andB (fB (chF leI ltI (fC (.int 0)) (op2 idxD (fun env=>getF env 0) (fC (.int 0))) (fun env=>getF env 1))) (fB (chF leI ltI (fC (.int 0)) (op2 idxD (fun env=>getF env 0) (fC (.int 1))) (fun env=>getF env 2))))) (emitF (fun env=>getF env 0)) 1 [0,1]) (fLst fNil))) (retF (fC (.bl false))) nxF) (seqF (forF (itL (fun env=>((fCons (fun env=>getF env 0) (fCons (fun env=>getF env 1) (fCons (fun env=>getF env 2) fNil))) env).bind q__law_runs)) (tgN 5) (B__law_is_net_1 )) (retF (fC (.bl true)))))))
def m__law_is_net:List D→Option D:=runF (F__law_is_net m__law_runs) 6
def B__law_cells_1 :Fs:=(appF 5 (fTup (fCons (op2 addI (fun env=>getF env 1) (op2 mulI (fun env=>getF env 6) (un1 intD (op2 eqF (fun env=>getF env 3) (fC (.str (Str.ofString "down"))))))) (fCons (op2 addI (fun env=>getF env 2) (op2 mulI (fun env=>getF env 6) (un1 intD (op2 eqF (fun env=>getF env 3) (fC (.str (Str.ofString "along"))))))) fNil))))
def F__law_cells :Fs:=(seqF (unF [1,2,3,4] (fun env=>getF env 0)) (seqF (setO 5 (fLst fNil)) (seqF (forF (itR1 (fun env=>getF env 4)) (tgN 6) (B__law_cells_1 )) (retO 5))))
def m__law_cells:List D→Option D:=runF (F__law_cells ) 7
def B__law_apart_1 :Fs:=(seqF (ifF (fB (op2 (inQ false) (fun env=>getF env 3) (fun env=>getP env 1))) (retF (fC (.bl false))) nxF) (putV 1 (fun env=>getF env 3)))
def B__law_apart_2 (q__law_cells:List D→Option D):Fs:=(forF (itL (fun env=>((fCons (fun env=>getF env 2) fNil) env).bind q__law_cells)) (tgN 3) (B__law_apart_1 ))
def F__law_apart (q__law_cells:List D→Option D):Fs:=(seqF (setQ 1 (fC (.dct []))) (seqF (forF (itL (fun env=>getF env 0)) (tgN 2) (B__law_apart_2 q__law_cells)) (retF (fC (.bl true)))))
def m__law_apart:List D→Option D:=runF (F__law_apart m__law_cells) 4
def B__law_ships_right_1 :Fs:=(ifF (orB (fB (op2 ltI (fun env=>getF env 5) (fC (.int 0)))) (orB (fB (op2 geI (fun env=>getF env 5) (fun env=>getF env 0))) (orB (fB (op2 ltI (fun env=>getF env 6) (fC (.int 0)))) (fB (op2 geI (fun env=>getF env 6) (fun env=>getF env 1)))))) (retF (fC (.bl false))) nxF)
def B__law_ships_right_2 (q__law_cells:List D→Option D):Fs:=(seqF (ifF (orB (notB (fB (un1 (isiF .tuple) (fun env=>getF env 4)))) (orB (fB (op2 neF (un1 lenD (fun env=>getF env 4)) (fC (.int 4)))) (orB (fB (op2 neF (op2 idxD (fun env=>getF env 4) (fC (.int 3))) (fun env=>getF env 2))) (fB (op2 (inF true) (op2 idxD (fun env=>getF env 4) (fC (.int 2))) (fTup (fCons (fC (.str (Str.ofString "along"))) (fCons (fC (.str (Str.ofString "down"))) fNil)))))))) (retF (fC (.bl false))) nxF) (seqF (ifF (andB (fB (op2 eqF (fun env=>getF env 2) (fC (.int 1)))) (fB (op2 eqF (op2 idxD (fun env=>getF env 4) (fC (.int 2))) (fC (.str (Str.ofString "down")))))) (retF (fC (.bl false))) nxF) (forF (itL (fun env=>((fCons (fun env=>getF env 4) fNil) env).bind q__law_cells)) (tgT [5,6]) (B__law_ships_right_1 ))))
def F__law_ships_right (q__law_cells:List D→Option D) (q__law_apart:List D→Option D):Fs:=(seqF (forF (itL (fun env=>getF env 3)) (tgN 4) (B__law_ships_right_2 q__law_cells)) (retF (andF (op2 eqF (fun env=>getF env 3) (un1 sortU (fun env=>getF env 3))) (fun env=>((fCons (fun env=>getF env 3) fNil) env).bind q__law_apart))))
def m__law_ships_right:List D→Option D:=runF (F__law_ships_right m__law_cells m__law_apart) 7
def F_is_tuple_of :Fs:=(retF (andF (un1 (isiF .tuple) (fun env=>getF env 0)) (op2 eqF (un1 lenD (fun env=>getF env 0)) (fun env=>getF env 1))))
def m_is_tuple_of:List D→Option D:=runF (F_is_tuple_of ) 2
def F_is_whole :Fs:=(retF (andF (un1 (isiF .int) (fun env=>getF env 0)) (un1 notD (un1 (isiF .bool) (fun env=>getF env 0)))))
def m_is_whole:List D→Option D:=runF (F_is_whole ) 1
def F_is_cell (q_is_tuple_of:List D→Option D) (q_is_whole:List D→Option D):Fs:=(seqF (ifF (notB (fB (fun env=>((fCons (fun env=>getF env 1) (fCons (fC (.int 2)) fNil)) env).bind q_is_tuple_of))) (retF (fC (.bl false))) nxF) (seqF (unF [2,3] (fun env=>getF env 1)) (retF (andF (fun env=>((fCons (fun env=>getF env 2) fNil) env).bind q_is_whole) (andF (fun env=>((fCons (fun env=>getF env 3) fNil) env).bind q_is_whole) (andF (chF leI ltI (fC (.int 0)) (fun env=>getF env 2) (op2 idxD (fun env=>getF env 0) (fC (.int 0)))) (chF leI ltI (fC (.int 0)) (fun env=>getF env 3) (op2 idxD (fun env=>getF env 0) (fC (.int 1))))))))))
def m_is_cell:List D→Option D:=runF (F_is_cell m_is_tuple_of m_is_whole) 4
def F_cells_of :Fs:=(seqF (unF [1,2,3,4] (fun env=>getF env 0)) (seqF (ifF (fB (op2 eqF (fun env=>getF env 3) (fC (.str (Str.ofString "down"))))) (retF (compF (itR1 (fun env=>getF env 4)) [0] (tgN 0) (fun _=>some true) (emitF (fTup (fCons (op2 addI (fun env=>getF env 1) (fun env=>getF env 0)) (fCons (fun env=>getF env 2) fNil)))) 1 [1,2])) nxF) (retF (compF (itR1 (fun env=>getF env 4)) [0] (tgN 0) (fun _=>some true) (emitF (fTup (fCons (fun env=>getF env 1) (fCons (op2 addI (fun env=>getF env 2) (fun env=>getF env 0)) fNil)))) 1 [1,2]))))
def m_cells_of:List D→Option D:=runF (F_cells_of ) 5
def F_bodies_of (q_cells_of:List D→Option D):Fs:=(seqF (setF 3 (compF (itR1 (fun env=>getF env 0)) [0] (tgN 0) (fun _=>some true) (moreF (itR1 (op2 addI (op2 subI (fun env=>getF env 2) (fun env=>getF env 3)) (fC (.int 1)))) [1] (tgN 1) (fun _=>some true) (emitF (fTup (fCons (fun env=>getF env 0) (fCons (fun env=>getF env 1) (fCons (fC (.str (Str.ofString "along"))) (fCons (fun env=>getF env 3) fNil))))))) 2 [1,2])) (seqF (setF 4 (compF (itR1 (op2 addI (op2 subI (fun env=>getF env 0) (fun env=>getF env 2)) (fC (.int 1)))) [0] (tgN 0) (fun _=>some true) (moreF (itR1 (fun env=>getF env 2)) [1] (tgN 1) (fun _=>some true) (emitF (fTup (fCons (fun env=>getF env 0) (fCons (fun env=>getF env 1) (fCons (fC (.str (Str.ofString "down"))) (fCons (fun env=>getF env 3) fNil))))))) 2 [1,2])) (retF (compF (itL (op2 addL (fun env=>getF env 3) (fun env=>getF env 4))) [0] (tgN 0) (fun _=>some true) (emitF (fun env=>((fCons (fun env=>getF env 0) fNil) env).bind q_cells_of)) 1 []))))
def m_bodies_of:List D→Option D:=runF (F_bodies_of m_cells_of) 5
def F_is_net (q_is_cell:List D→Option D) (q_bodies_of:List D→Option D):Fs:=(seqF (ifF (notB (fB (un1 allD (compF (itL (fun env=>getF env 3)) [0] (tgN 0) (fun _=>some true) (emitF (fun env=>((fCons (fTup (fCons (fun env=>getF env 1) (fCons (fun env=>getF env 2) fNil))) (fCons (fun env=>getF env 0) fNil)) env).bind q_is_cell)) 1 [0,1])))) (retF (fC (.bl false))) nxF) (seqF (setF 4 (un1 setD (fun env=>getF env 3))) (seqF (ifF (fB (op2 ltI (un1 lenS (fun env=>getF env 4)) (un1 lenD (fun env=>getF env 3)))) (retF (fC (.bl false))) nxF) (retF (un1 allD (compF (itL (fun env=>((fCons (fun env=>getF env 0) (fCons (fun env=>getF env 1) (fCons (fun env=>getF env 2) fNil))) env).bind q_bodies_of)) [0] (tgN 0) (fun _=>some true) (emitF (un1 anyD (compF (itL (fun env=>getF env 0)) [0] (tgN 0) (fun _=>some true) (emitF (op2 (inS false) (fun env=>getF env 0) (fun env=>getF env 1))) 1 [1]))) 1 [4]))))))
def m_is_net:List D→Option D:=runF (F_is_net m_is_cell m_bodies_of) 5
def F_lie_apart (q_cells_of:List D→Option D):Fs:=(seqF (setF 1 (compF (itL (fun env=>getF env 0)) [0] (tgN 0) (fun _=>some true) (moreF (itL (fun env=>((fCons (fun env=>getF env 0) fNil) env).bind q_cells_of)) [1] (tgN 1) (fun _=>some true) (emitF (fun env=>getF env 1))) 2 [])) (retF (op2 eqF (un1 lenS (un1 setD (fun env=>getF env 1))) (un1 lenD (fun env=>getF env 1)))))
def m_lie_apart:List D→Option D:=runF (F_lie_apart m_cells_of) 2
def F_least_net (q_needs_ring:List D→Option D):Fs:=(seqF (unF [3,4] (fTup (fCons (op2 modI (fun env=>getF env 0) (fun env=>getF env 2)) (fCons (op2 modI (fun env=>getF env 1) (fun env=>getF env 2)) fNil)))) (seqF (ifF (fB (fun env=>((fCons (fun env=>getF env 0) (fCons (fun env=>getF env 1) (fCons (fun env=>getF env 2) fNil))) env).bind q_needs_ring)) (unF [3,4] (fTup (fCons (op2 subI (fun env=>getF env 2) (fun env=>getF env 3)) (fCons (op2 subI (fun env=>getF env 2) (fun env=>getF env 4)) fNil)))) nxF) (retF (op2 fdivI (op2 subI (op2 mulI (fun env=>getF env 0) (fun env=>getF env 1)) (op2 mulI (fun env=>getF env 3) (fun env=>getF env 4))) (fun env=>getF env 2)))))
def m_least_net:List D→Option D:=runF (F_least_net m_needs_ring) 5
def B_law_1 (q__law_sizes:List D→Option D) (q_net_of:List D→Option D) (q__law_is_net:List D→Option D) (q__law_ships_right:List D→Option D) (q_is_net:List D→Option D) (q_lie_apart:List D→Option D) (q_least_net:List D→Option D):Fs:=(seqF (unF [2,3,4] (fun env=>((fCons (fun env=>getF env 1) fNil) env).bind q__law_sizes)) (take2 5 6 7 (fun env=>((fCons (fun env=>getF env 2) (fCons (fun env=>getF env 3) (fCons (fun env=>getF env 4) fNil))) env).bind q_net_of) (orB (notB (fB (un1 (isiF .tuple) (fun env=>getF env 5)))) (fB (op2 neF (compF (itT (fun env=>getF env 5)) [0] (tgN 0) (notB (fB (un1 (isiF .list) (fun env=>getF env 0)))) (emitF (fun env=>getF env 0)) 1 []) (fLst fNil)))) (orB (fB (op2 neF (un1 lenD (fun env=>getF env 5)) (fC (.int 2)))) (orB (fB (op2 neF (un1 lenD (fun env=>getF env 6)) (un1 lenD (fun env=>getF env 7)))) (fB (op2 neF (fun env=>getF env 6) (un1 sortU (fun env=>getF env 6)))))) (seqF (ifF (borF [6,7] (orB (notB (fB (fun env=>((fCons (fun env=>getF env 2) (fCons (fun env=>getF env 3) (fCons (fun env=>getF env 4) (fCons (fun env=>getF env 6) fNil)))) env).bind q__law_is_net))) (notB (fB (fun env=>((fCons (fun env=>getF env 2) (fCons (fun env=>getF env 3) (fCons (fun env=>getF env 4) (fCons (fun env=>getF env 7) fNil)))) env).bind q__law_ships_right))))) (retF (fC (.bl false))) nxF) (seqF (ifF (borF [6,7] (orB (fB (op2 (isF true) (fun env=>((fCons (fun env=>getF env 2) (fCons (fun env=>getF env 3) (fCons (fun env=>getF env 4) (fCons (un1 listD (fun env=>getF env 6)) fNil)))) env).bind q_is_net) (fC (.bl true)))) (fB (op2 (isF true) (fun env=>((fCons (un1 listD (fun env=>getF env 7)) fNil) env).bind q_lie_apart) (fC (.bl true)))))) (retF (fC (.bl false))) nxF) (seqF (ifF (borF [6] (fB (op2 neF (fun env=>((fCons (fun env=>getF env 2) (fCons (fun env=>getF env 3) (fCons (fun env=>getF env 4) fNil))) env).bind q_least_net) (un1 lenD (fun env=>getF env 6))))) (retF (fC (.bl false))) nxF) (seqF (setF 8 (fTup (fCons (un1 listD (fun env=>getP env 6)) (fCons (un1 listD (fun env=>getP env 7)) fNil)))) (seqF (appF 6 (fTup (fCons (fC (.int 0)) (fCons (fC (.int 0)) fNil)))) (seqF (appF 7 (fC .non)) (ifF (fB (op2 neF (fun env=>((fCons (fun env=>getF env 2) (fCons (fun env=>getF env 3) (fCons (fun env=>getF env 4) fNil))) env).bind q_net_of) (fun env=>getF env 8))) (retF (fC (.bl false))) nxF)))))))))
def F_law (q__law_sizes:List D→Option D) (q_net_of:List D→Option D) (q__law_is_net:List D→Option D) (q__law_ships_right:List D→Option D) (q_is_net:List D→Option D) (q_lie_apart:List D→Option D) (q_least_net:List D→Option D):Fs:=(seqF (forF (itL (op2 addL (fLst (fCons (fC (.int 0)) fNil)) (slF cutLst (fun env=>getF env 0) oNone (oSome (fC (.int 12)))))) (tgN 1) (B_law_1 q__law_sizes q_net_of q__law_is_net q__law_ships_right q_is_net q_lie_apart q_least_net)) (retF (fC (.bl true))))
def m_law:List D→Option D:=runF (F_law m__law_sizes m_net_of m__law_is_net m__law_ships_right m_is_net m_lie_apart m_least_net) 9
end K22
namespace K22
open PySem Mi
theorem stir_ok (c k:Int) (hk:0≤k) (hk2:k≤1000):∃ z,m__law_stir [.int c,.int k]=some (.int z):=by
  have p60:powI (.int 10) (.int 60)=some (.int (10 ^ 60)):=pow_in (big_in (by decide) (by decide)) (by decide) (by decide)
  have h60:(0:Int)<10 ^ 60:=by decide +kernel
  have h1:(c%10 ^ 60).natAbs≤10 ^ 60:=by
    have a:=Int.emod_nonneg c (Int.ne_of_gt h60)
    have b:=Int.emod_lt_of_pos c h60
    have e:(10 ^ 60:Int)=((10 ^ 60:Nat):Int):=by decide +kernel
    omega
  have m1:mulI (.int 7919) (.int k)=some (.int (7919*k)):=mul_in (by decide) (by decide) (by omega) (by omega)
  have h2:(c%10 ^ 60+7919*k+1).natAbs≤10 ^ 60+7919001:=by omega
  have m2:mulI (.int (c%10 ^ 60+7919*k+1)) (.int 27182818284590452353602874713527)=some (.int ((c%10 ^ 60+7919*k+1)*27182818284590452353602874713527)):=mul_big (big_of _ h2) (big_of 27182818284590452353602874713527 (by decide))
  generalize hn:(c%10 ^ 60+7919*k+1)*27182818284590452353602874713527=n at m2
  have hmod:modI (.int n) (.int 170141183460469231731687303715884105727)=some (.int (n%170141183460469231731687303715884105727)):=mod_in (by decide)
  have h3:(n%170141183460469231731687303715884105727).natAbs≤170141183460469231731687303715884105727:=by omega
  generalize n%170141183460469231731687303715884105727=q at hmod h3
  have p5:powI (.int q) (.int 5)=some (.int (q ^ 5)):=pow_in (big_of _ h3) (by decide) (by decide)
  have h4:=abs_pow _ 5 h3
  have m3:mulI (.int 48271) (.int k)=some (.int (48271*k)):=mul_in (by decide) (by decide) (by omega) (by omega)
  have h5:(q ^ 5+48271*k).natAbs≤170141183460469231731687303715884105727 ^ 5+48271000:=abs_add _ _ h4 (by omega)
  generalize q ^ 5=t at p5 h5
  have p3:powI (.int (t+48271*k)) (.int 3)=some (.int ((t+48271*k) ^ 3)):=pow_in (big_of _ h5) (by decide) (by decide)
  have hmod2:modI (.int ((t+48271*k) ^ 3)) (.int 162259276829213363391578010288127)=some (.int ((t+48271*k) ^ 3%162259276829213363391578010288127)):=mod_in (by decide)
  have hd:fdivI (.int ((t+48271*k) ^ 3%162259276829213363391578010288127)) (.int 7)=some (.int ((t+48271*k) ^ 3%162259276829213363391578010288127/7)):=fdiv_in (by decide) (by decide)
  have hmod0:modI (.int c) (.int (10 ^ 60))=some (.int (c%10 ^ 60)):=mod_in h60
  refine ⟨(t+48271*k) ^ 3%162259276829213363391578010288127/7,?_⟩
  · unfold m__law_stir runF F__law_stir
    simp only [startE,List.map,List.length,List.replicate,List.cons_append,List.nil_append,seqF,setF,retF,op2,fC,getF_F,getF_S,Option.bind_some,List.set,List.getElem?_cons_zero,List.getElem?_cons_succ,p60,hmod0,m1,add_v,m2,hmod,p5,m3,p3,hmod2,hd]
theorem p18_ok:∃ w,powI (.int 10) (.int 18)=some (.int w):=⟨_,pow_in (big_in (by decide) (by decide)) (by decide) (by decide)⟩
theorem body_ok (c q:Int) (ss r:List Int) (i:Nat) (s:Int) (hsi:ss[i]?=some s) (hpos:0<s∧s<1073741824) (hi:i<1000) (hr:r.length=i) :
    ∃ y q',(B__law_drawn_1 m__law_stir) [.F (.int c),.F (.lst (ss.map .int)),.O (.L (r.map .int)),.F (.int q),.F (.int i)]=some (.nx [.F (.int c),.F (.lst (ss.map .int)),.O (.L ((r++[y]).map .int)),.F (.int q'),.F (.int i)])∧0≤y∧y<s:=by
  obtain ⟨w,p18⟩:=p18_ok
  have hat:L2.atI (ss.map D.int) (i:Int)=some (.int s):=atI_nat (by rw [List.getElem?_map,hsi];rfl)
  obtain ⟨z,hz⟩:=stir_ok c i (by omega) (by omega)
  have hap:(r.map D.int).length<16000000:=by simp;omega
  have snoc:∀ y:Int,(r++[y]).map D.int=r.map D.int++[D.int y]:=fun y=>by simp
  have hix:op2 idxD (fun env=>getF env 1) (fun env=>getF env 4) [.F (.int c),.F (.lst (ss.map .int)),.O (.L (r.map .int)),.F (.int q),.F (.int i)]=some (.int s):=idx_v rfl rfl hat
  have t1:fB (op2 ltI (fun env=>getF env 0) (op2 powI (fC (.int 10)) (fC (.int 18)))) [.F (.int c),.F (.lst (ss.map .int)),.O (.L (r.map .int)),.F (.int q),.F (.int i)]=some (decide (c<w)):=fB_v ((op2_v rfl ((op2_v rfl rfl).trans p18)).trans (lt_v _ _))
  have t2:fB (op2 eqF (fun env=>getF env 3) (fC (.int 0))) [.F (.int c),.F (.lst (ss.map .int)),.O (.L (r.map .int)),.F (.int q),.F (.int i)]=some (q==0):=fB_v ((op2_v rfl rfl).trans (eq_v _ _))
  have stirred:∀ {t:Fb} {g:Fs},t [.F (.int c),.F (.lst (ss.map .int)),.O (.L (r.map .int)),.F (.int q),.F (.int i)]=some true→ifF t (appF 2 (op2 modI (fun env=>((fCons (fun env=>getF env 0) (fCons (fun env=>getF env 4) fNil)) env).bind m__law_stir) (op2 idxD (fun env=>getF env 1) (fun env=>getF env 4)))) g [.F (.int c),.F (.lst (ss.map .int)),.O (.L (r.map .int)),.F (.int q),.F (.int i)]=some (.nx [.F (.int c),.F (.lst (ss.map .int)),.O (.L ((r++[z%s]).map .int)),.F (.int q),.F (.int i)]):=fun ht=>by
    rw [snoc]
    exact (ifT_v ht).trans ((app_v rfl ((op2_v ((call_v (cons_v rfl (cons_v rfl nil_v))).trans hz) hix).trans (mod_in hpos.1)) hap))
  by_cases h1:c<w
  · rw [decide_eq_true h1] at t1
    exact ⟨z%s,q,stirred (orT_v t1),Int.emod_nonneg _ (by omega),Int.emod_lt_of_pos _ hpos.1⟩
  · rw [decide_eq_false h1] at t1
    by_cases h2:q=0
    · rw [show (q==0)=true by simp [h2]] at t2
      exact ⟨z%s,q,stirred ((orF_v t1).trans t2),Int.emod_nonneg _ (by omega),Int.emod_lt_of_pos _ hpos.1⟩
    · rw [show (q==0)=false by simp [h2]] at t2
      refine ⟨q%s,q/s,?_,Int.emod_nonneg _ (by omega),Int.emod_lt_of_pos _ hpos.1⟩
      rw [snoc]
      refine (ifE_v ((orF_v t1).trans t2)).trans ((seq_v (app_v rfl ((op2_v rfl hix).trans (mod_in hpos.1)) hap)).trans (set_v ((op2_v rfl (idx_v rfl rfl hat)).trans (fdiv_in hpos.1 hpos.2))))
theorem drawn_ok (c:Int) (ss:List Int) (hs:∀ x∈ss,0<x∧x<1073741824) (hl:ss.length≤1000) :
    ∃ r:List Int,m__law_drawn [.int c,.lst (ss.map .int)]=some (.lst (r.map .int))∧r.length=ss.length∧∀ (i:Nat) (x s:Int),r[i]?=some x→ss[i]?=some s→0≤x∧x<s:=by
  let I:Nat→En→Prop:=fun n env=>∃ (r:List Int) (q:Int) (s4:Slot),env=[.F (.int c),.F (.lst (ss.map .int)),.O (.L (r.map .int)),.F (.int q),s4]∧r.length=n∧∀ (i:Nat) (x s:Int),r[i]?=some x→ss[i]?=some s→0≤x∧x<s
  have hrl:(rangeL 0 ss.length).length=ss.length:=by simp [rangeL]
  obtain ⟨e2,h1,r,q,s4,he,hr,hx⟩:=loop_at (t:=tgN 4) (body:=(B__law_drawn_1 m__law_stir)) I (rangeL 0 ss.length) 0 [.F (.int c),.F (.lst (ss.map .int)),.O (.L []),.F (.int c),.un] ⟨[],c,.un,rfl,rfl,fun i x s h=>by simp at h⟩ fun i d e hd ⟨r,q,s4,he,hr,hx⟩=>by
      subst he
      obtain ⟨rfl,hi⟩:=rng_get hd
      obtain ⟨s,hsi⟩:∃ s,ss[i]?=some s:=⟨ss[i],List.getElem?_eq_getElem hi⟩
      have hpos:=hs s (List.mem_of_getElem? hsi)
      obtain ⟨y,q',h2,h3,h4⟩:=body_ok c q ss r i s hsi hpos (by omega) (by omega)
      refine ⟨_,h2,r++[y],q',_,rfl,by simp;omega,fun j x s' hx' hsj=>?_⟩
      by_cases hj:j<r.length
      · rw [List.getElem?_append_left hj] at hx'
        exact hx j x s' hx' hsj
      · rw [List.getElem?_append_right (by omega)] at hx'
        have hj0:j-r.length=0:=by
          have:=(List.getElem?_eq_some_iff.mp hx').1
          simp at this
          omega
        rw [hj0] at hx'
        cases hx'
        rw [show j=i by omega,hsi] at hsj
        cases hsj
        exact ⟨h3,h4⟩
  subst he
  rw [hrl] at hr
  refine ⟨r,?_,by omega,hx⟩
  have hit:itR1 (un1 lenD (fun env=>getF env 1)) [.F (.int c),.F (.lst (ss.map .int)),.O (.L []),.F (.int c),.un]=some (rangeL 0 ss.length):=by
    rw [← List.length_map (f:=D.int) (as:=ss)]
    exact itR1_v (len_v rfl) (by rw [List.length_map];omega)
  exact run_v ((seq_v rfl).trans ((seq_v rfl).trans ((seq_v ((for_v hit).trans h1)).trans rfl)))
end K22
namespace K22
open PySem Mi
abbrev sAl:Str:=Str.ofString "along"
abbrev sDn:Str:=Str.ofString "down"
structure Sh where
  a:Int
  b:Int
  dn:Bool
  n:Nat
  deriving DecidableEq
def Sh.w (s:Sh):Str:=if s.dn=true then sDn else sAl
def Sh.d (s:Sh):D:=.tup [.int s.a,.int s.b,.str s.w,.int s.n]
def Sh.at (s:Sh) (i:Int):Int×Int:=if s.dn=true then (s.a+i,s.b) else (s.a,s.b+i)
def Sh.cs (s:Sh):List (Int×Int):=(List.range s.n).map fun (i:Nat)=>s.at i
def cel (p:Int×Int):D:=.tup [.int p.1,.int p.2]
theorem rng_map {g:D→D} (n:Nat):(rangeL 0 n).map g=(List.range n).map fun (i:Nat)=>g (.int i):=by
  unfold rangeL;simp [List.map_map,Function.comp_def]
theorem rng_flat {g:D→List D} (n:Nat):(rangeL 0 n).flatMap g=(List.range n).flatMap fun (i:Nat)=>g (.int i):=by
  unfold rangeL;rw [List.flatMap_map];simp
theorem flat1 {g:D→D}:∀ (ds:List D),(ds.flatMap fun d=>[g d])=ds.map g
  | []=>rfl
  | d::ds=>by rw [List.flatMap_cons,flat1 ds];rfl
theorem go_flat {t:Ft} {c:Fb} {k:En→Option (List D)} {env:En} (g:D→List D):∀ (ds:List D),(∀ d∈ds,∃ e1,t d env=some e1∧c e1=some true∧k e1=some (g d))→goF t c k env ds=some (ds.flatMap g)
  | [],_=>rfl
  | d::ds,h=>by
    obtain ⟨e1,h1,h2,h3⟩:=h d List.mem_cons_self
    have ih:=go_flat g ds fun x hx=>h x (List.mem_cons_of_mem _ hx)
    unfold goF
    rw [h1];show (c e1).bind _=_;rw [h2]
    show (if true=true then k e1 else some []).bind _=_
    rw [if_pos rfl,h3];show (goF t c k env ds).bind _=_;rw [ih];rfl
theorem more_v {fi:Fi} {is:List Nat} {t:Ft} {c:Fb} {k:En→Option (List D)} {env:En} {ds xs:List D} (h1:fi env=some ds) (h2:unAll is env=true) (h3:goF t c k env ds=some xs):moreF fi is t c k env=some xs:=by
  unfold moreF;rw [h1];show (if unAll is env=true then _ else _)=_;rw [if_pos h2,h3]
def atD (s:Sh):D→D
  | .int i=>cel (s.at i)
  | _=>.non
theorem cs_map (s:Sh):(rangeL 0 s.n).map (atD s)=s.cs.map cel:=by
  rw [rng_map];unfold Sh.cs;rw [List.map_map];rfl
theorem cs_len (s:Sh):s.cs.length=s.n:=by unfold Sh.cs;simp
theorem cells1 (s:Sh) (s0:Slot) (i:Nat) (hi:i<1000) (acc:List D) (hl:acc.length<16000) :
    B__law_cells_1 [s0,.F (.int s.a),.F (.int s.b),.F (.str s.w),.F (.int s.n),.O (.L acc),.F (.int i)]=some (.nx [s0,.F (.int s.a),.F (.int s.b),.F (.str s.w),.F (.int s.n),.O (.L (acc++[cel (s.at i)])),.F (.int i)]):=by
  obtain ⟨a,b,dn,n⟩:=s
  have m0:mulI (.int i) (.int 0)=some (.int 0):=by rw [mul_in (by omega) (by omega) (by decide) (by decide),Int.mul_zero]
  have m1:mulI (.int i) (.int 1)=some (.int i):=by rw [mul_in (by omega) (by omega) (by decide) (by decide),Int.mul_one]
  cases dn
  · have e0:un1 intD (op2 eqF (fun env=>getF env 3) (fC (.str (Str.ofString "down")))) [s0,.F (.int a),.F (.int b),.F (.str sAl),.F (.int n),.O (.L acc),.F (.int i)]=some (.int 0):=rfl
    have e1:un1 intD (op2 eqF (fun env=>getF env 3) (fC (.str (Str.ofString "along")))) [s0,.F (.int a),.F (.int b),.F (.str sAl),.F (.int n),.O (.L acc),.F (.int i)]=some (.int 1):=rfl
    refine app_v (d:=cel (a,b+i)) rfl (tup_v (cons_v ((op2_v (y:=.int 0) rfl ((op2_v rfl e0).trans m0)).trans ?_) (cons_v ((op2_v (y:=.int i) rfl ((op2_v rfl e1).trans m1)).trans (add_v _ _)) nil_v))) (by omega)
    rw [add_v,Int.add_zero]
  · have e0:un1 intD (op2 eqF (fun env=>getF env 3) (fC (.str (Str.ofString "along")))) [s0,.F (.int a),.F (.int b),.F (.str sDn),.F (.int n),.O (.L acc),.F (.int i)]=some (.int 0):=rfl
    have e1:un1 intD (op2 eqF (fun env=>getF env 3) (fC (.str (Str.ofString "down")))) [s0,.F (.int a),.F (.int b),.F (.str sDn),.F (.int n),.O (.L acc),.F (.int i)]=some (.int 1):=rfl
    refine app_v (d:=cel (a+i,b)) rfl (tup_v (cons_v ((op2_v (y:=.int i) rfl ((op2_v rfl e1).trans m1)).trans (add_v _ _)) (cons_v ((op2_v (y:=.int 0) rfl ((op2_v rfl e0).trans m0)).trans ?_) nil_v))) (by omega)
    rw [add_v,Int.add_zero]
theorem cells_ok (s:Sh) (hn:s.n≤1000):m__law_cells [s.d]=some (.lst (s.cs.map cel)):=by
  obtain ⟨e2,h1,s6,h2⟩:=loop_acc (t:=tgN 6) (body:=B__law_cells_1) (fun acc e=>∃ s6,e=[.F s.d,.F (.int s.a),.F (.int s.b),.F (.str s.w),.F (.int s.n),.O (.L acc),s6]) (fun d=>[atD s d]) 1 8000 (rangeL 0 s.n) [] [.F s.d,.F (.int s.a),.F (.int s.b),.F (.str s.w),.F (.int s.n),.O (.L []),.un] ⟨_,rfl⟩ (by rw [rng_len,List.length_nil];omega) fun d hd=>⟨Nat.le_refl _,fun acc e ⟨s6,he⟩ hl=>by
    subst he
    obtain ⟨i,hi,rfl⟩:=mem_rng.mp hd
    exact ⟨_,cells1 s (.F s.d) i (by omega) acc (by omega),_,rfl⟩⟩
  subst h2
  rw [flat1,cs_map,List.nil_append] at h1
  exact run_v ((seq_v (unF_v (ds:=[.int s.a,.int s.b,.str s.w,.int s.n]) rfl rfl)).trans ((seq_v (setO_v rfl)).trans ((seq_v ((for_v (itR1_v (n:=s.n) rfl (by omega))).trans h1)).trans rfl)))
theorem cellsof_ok (s:Sh) (hn:s.n≤1000):m_cells_of [s.d]=some (.lst (s.cs.map cel)):=by
  have hl:(s.cs.map cel).length≤16000000:=by rw [List.length_map];unfold Sh.cs;simp;omega
  have hit:itR1 (fun env=>getF env 4) [.F s.d,.F (.int s.a),.F (.int s.b),.F (.str s.w),.F (.int s.n)]=some (rangeL 0 s.n):=itR1_v (n:=s.n) rfl (by omega)
  refine run_v ((seq_v (unF_v (ds:=[.int s.a,.int s.b,.str s.w,.int s.n]) rfl rfl)).trans ?_)
  show seqF _ _ [.F s.d,.F (.int s.a),.F (.int s.b),.F (.str s.w),.F (.int s.n)]=_
  obtain ⟨a,b,dn,n⟩:=s
  cases dn
  · have e0:fB (op2 eqF (fun env=>getF env 3) (fC (.str (Str.ofString "down")))) [.F (Sh.d ⟨a,b,false,n⟩),.F (.int a),.F (.int b),.F (.str sAl),.F (.int n)]=some false:=rfl
    refine (seq_v ((ifE_v e0).trans rfl)).trans (ret_v (comp_v hit rfl ?_ hl))
    rw [← cs_map]
    refine go_map1 (atD ⟨a,b,false,n⟩) _ fun d hd=>?_
    obtain ⟨i,hi,rfl⟩:=mem_rng.mp hd
    exact ⟨_,rfl,rfl⟩
  · have e0:fB (op2 eqF (fun env=>getF env 3) (fC (.str (Str.ofString "down")))) [.F (Sh.d ⟨a,b,true,n⟩),.F (.int a),.F (.int b),.F (.str sDn),.F (.int n)]=some true:=rfl
    refine seqR_v ((ifT_v e0).trans (ret_v (comp_v hit rfl ?_ hl)))
    rw [← cs_map]
    refine go_map1 (atD ⟨a,b,true,n⟩) _ fun d hd=>?_
    obtain ⟨i,hi,rfl⟩:=mem_rng.mp hd
    exact ⟨_,rfl,rfl⟩
def whB:D→Bool
  | .int _=>true
  | _=>false
theorem whole_ok (d:D):m_is_whole [d]=some (.bl (whB d)):=by cases d<;>rfl
def tupN (n:Int):D→Bool
  | .tup ds=>(ds.length:Int)==n
  | _=>false
theorem tupof_ok (d:D) (n:Int):m_is_tuple_of [d,.int n]=some (.bl (tupN n d)):=by
  refine run_v (ret_v ?_)
  cases d<;>try rfl
def inR (r:Int):D→Bool
  | .int i=>decide (0≤i)&&decide (i<r)
  | _=>false
theorem cell_ok (r c:Int) (a b:D):m_is_cell [.tup [.int r,.int c],.tup [a,b]]=some (.bl (inR r a&&inR c b)):=by
  have t1:fB (fun env=>((fCons (fun env=>getF env 1) (fCons (fC (.int 2)) fNil)) env).bind m_is_tuple_of) (startE 4 [.tup [.int r,.int c],.tup [a,b]])=some true:=fB_v ((call_v rfl).trans (tupof_ok _ 2))
  refine run_v ((seq_v ((ifE_v (not_v t1)).trans rfl)).trans ((seq_v (unF_v (ds:=[a,b]) rfl rfl)).trans (ret_v ?_)))
  have w1:(fun env=>((fCons (fun env=>getF env 2) fNil) env).bind m_is_whole) [.F (.tup [.int r,.int c]),.F (.tup [a,b]),.F a,.F b]=some (.bl (whB a)):=(call_v rfl).trans (whole_ok a)
  have w2:(fun env=>((fCons (fun env=>getF env 3) fNil) env).bind m_is_whole) [.F (.tup [.int r,.int c]),.F (.tup [a,b]),.F a,.F b]=some (.bl (whB b)):=(call_v rfl).trans (whole_ok b)
  cases a
  case int i=>
    refine (and_t w1).trans ?_
    cases b
    case int j=>exact (and_t w2).trans (and_v (ch_v (x:=.int 0) (y:=.int i) (w:=.int r) rfl rfl rfl (le_v _ _) (lt_v _ _)) fun _=>ch_v (x:=.int 0) (y:=.int j) (w:=.int c) rfl rfl rfl (le_v _ _) (lt_v _ _))
    all_goals exact (and_f w2).trans (by simp [inR])
  all_goals exact and_f w1
theorem cut_v {f g:Fe} {env:En} {ds:List D} {m:Nat} (h:g env=some (.lst ds)) (hf:f env=some (.int (m:Int))):slF cutLst g oNone (oSome f) env=some (.lst (ds.take m)):=by
  unfold slF oSome;rw [h,Option.bind_some]
  show ((f env).bind _).bind _=_
  rw [hf]
  show some (D.lst (cutD ds none (some (m:Int))))=_;rw [cutD_head]
theorem itR3_v {f g h:Fe} {env:En} {a b c:Int} (h1:f env=some (.int a)) (h2:g env=some (.int b)) (h3:h env=some (.int c)) (ha:small9 a=true) (hb:small9 b=true) (hc:small9 c=true) (hp:0<c):itR3 f g h env=some (stepL a c (stepN a b c)):=by
  unfold itR3
  rw [h1,Option.bind_some,h2,Option.bind_some,h3,Option.bind_some]
  dsimp only
  rw [ha,hb,hc,decide_eq_true hp];rfl
theorem ext_v {i:Nat} {f:Fe} {env:En} {ds es:List D} (h:f env=some (.lst es)) (h1:env[i]?=some (.O (.L ds))) (hl:ds.length+es.length≤16000000):extF i f env=some (.nx (env.set i (.O (.L (ds++es))))):=by
  unfold extF;rw [h1];show (f env).bind _=_;rw [h];show (if ds.length+es.length≤16000000 then _ else _)=_;rw [if_pos hl]
theorem mod_lo {a l:Int} (hl:0<l):0≤a%l∧a%l<l:=⟨Int.emod_nonneg _ (by omega),Int.emod_lt_of_pos _ hl⟩
theorem six {r:List Int} (h:r.length=6):∃ a b c d e f,r=[a,b,c,d,e,f]:=by
  match r,h with
  | [a,b,c,d,e,f],_=>exact ⟨a,b,c,d,e,f,rfl⟩
theorem times3 {l t:Int} (h1:1≤l) (h2:l≤15):1≤l*(1+t%3)∧l*(1+t%3)≤45:=by
  have h:t%3=0∨t%3=1∨t%3=2:=by omega
  rcases h with h | h | h<;>rw [h]<;>omega
theorem sizes_ok (c:Int):∃ x y l:Int,m__law_sizes [.int c]=some (.tup [.int x,.int y,.int l])∧(1≤x∧x≤60)∧(1≤y∧y≤60)∧1≤l∧l≤60:=by
  obtain ⟨q,h1,h2,h3⟩:=drawn_ok c [6,60,60,60,6,12] (by decide) (by decide)
  obtain ⟨w,a,b,d,t,m,rfl⟩:=six h2
  have hw:=h3 0 w 6 rfl rfl
  have ha:=h3 1 a 60 rfl rfl
  have hb:=h3 2 b 60 rfl rfl
  have hd:=h3 3 d 60 rfl rfl
  clear h2 h3
  have h0:unL [1,2,3,4,5,6] (fun env=>((fCons (fun env=>getF env 0) (fCons (fLst (fCons (fC (.int 6)) (fCons (fC (.int 60)) (fCons (fC (.int 60)) (fCons (fC (.int 60)) (fCons (fC (.int 6)) (fCons (fC (.int 12)) fNil))))))) fNil)) env).bind m__law_drawn) (startE 9 [.int c])=some (.nx [.F (.int c),.F (.int w),.F (.int a),.F (.int b),.F (.int d),.F (.int t),.F (.int m),.un,.un]):=unL_v ((call_v rfl).trans h1) rfl
  have t1:∀ (z:List Slot),fB (op2 ltI (fun env=>getF env 1) (fC (.int 2))) (.F (.int c)::.F (.int w)::z)=some (decide (w<2)):=fun z=>rfl
  have t2:∀ (z:List Slot),fB (op2 eqF (fun env=>getF env 1) (fC (.int 2))) (.F (.int c)::.F (.int w)::z)=some (w==2):=fun z=>rfl
  have t3:∀ (z:List Slot),fB (op2 eqF (fun env=>getF env 1) (fC (.int 3))) (.F (.int c)::.F (.int w)::z)=some (w==3):=fun z=>rfl
  have p:∀ {x y l:Int},F__law_sizes m__law_drawn (startE 9 [.int c])=some (.rt (.tup [.int x,.int y,.int l]))→m__law_sizes [.int c]=some (.tup [.int x,.int y,.int l]):=fun h=>run_v h
  by_cases c1:w<2
  · refine ⟨1+a%12,1+b%12,1+d%6,p ?_,by omega,by omega,by omega,by omega⟩
    refine (seq_v h0).trans ?_
    unfold seqF
    rw [ifT_v ((t1 _).trans (by rw [decide_eq_true c1]))]
    rfl
  by_cases c2:w=2
  · refine ⟨1+a,1+b,1+d,p ?_,by omega,by omega,by omega,by omega⟩
    refine (seq_v h0).trans ((seq_v ((ifE_v ((t1 _).trans (by rw [decide_eq_false c1]))).trans rfl)).trans ?_)
    unfold seqF
    rw [ifT_v ((t2 _).trans (by rw [c2];rfl))]
    rfl
  have n2:(w==2)=false:=by simpa using c2
  by_cases c3:w=3
  · refine ⟨1+a,1+b,1+d%15,p ?_,by omega,by omega,by omega,by omega⟩
    refine (seq_v h0).trans ((seq_v ((ifE_v ((t1 _).trans (by rw [decide_eq_false c1]))).trans rfl)).trans ((seq_v ((ifE_v ((t2 _).trans (by rw [n2]))).trans rfl)).trans ((seq_v (set_v (d:=.int (1+d%15)) rfl)).trans ?_)))
    exact seqR_v ((ifT_v ((t3 _).trans (by rw [c3];rfl))).trans rfl)
  have n3:(w==3)=false:=by simpa using c3
  have u1:=times3 (l:=1+d%15) (t:=t) (by omega) (by omega)
  have u2:=times3 (l:=1+d%15) (t:=m) (by omega) (by omega)
  have g1:=mod_lo (a:=a) (l:=1+d%15) (by omega)
  have g2:=mod_lo (a:=b) (l:=1+d%15) (by omega)
  have go:∀ H W:Int,H=(if (1+d%15)*(1+t%3)+a%(1+d%15)<60 then (1+d%15)*(1+t%3)+a%(1+d%15) else 60)→W=(if (1+d%15)*(1+m%3)+b%(1+d%15)<60 then (1+d%15)*(1+m%3)+b%(1+d%15) else 60)→
      F__law_sizes m__law_drawn (startE 9 [.int c])=retF (fTup (fCons (fun env=>getF env 7) (fCons (op2 idxD (fLst (fCons (fun env=>getF env 8) (fCons (op2 addI (fC (.int 1)) (op2 modI (fun env=>getF env 3) (fun env=>getF env 4))) fNil))) (op2 subI (fun env=>getF env 1) (fC (.int 4)))) (fCons (fun env=>getF env 4) fNil)))) [.F (.int c),.F (.int w),.F (.int a),.F (.int b),.F (.int (1+d%15)),.F (.int t),.F (.int m),.F (.int H),.F (.int W)]:=by
    rintro H W rfl rfl
    refine (seq_v h0).trans ((seq_v ((ifE_v ((t1 _).trans (by rw [decide_eq_false c1]))).trans rfl)).trans ((seq_v ((ifE_v ((t2 _).trans (by rw [n2]))).trans rfl)).trans ((seq_v (set_v (d:=.int (1+d%15)) rfl)).trans ((seq_v ((ifE_v ((t3 _).trans (by rw [n3]))).trans rfl)).trans ((seq_v (set_v ?_)).trans ((seq_v (set_v ?_)).trans rfl))))))
    · exact (op2_v rfl ((op2_v ((op2_v rfl rfl).trans (mul_in (i:=1+d%15) (j:=1+t%3) (by omega) (by omega) (by omega) (by omega))) ((op2_v rfl rfl).trans (mod_in (i:=a) (j:=1+d%15) (by omega)))).trans (add_v _ _))).trans rfl
    · exact (op2_v rfl ((op2_v ((op2_v rfl rfl).trans (mul_in (i:=1+d%15) (j:=1+m%3) (by omega) (by omega) (by omega) (by omega))) ((op2_v rfl rfl).trans (mod_in (i:=b) (j:=1+d%15) (by omega)))).trans (add_v _ _))).trans rfl
  obtain ⟨H,hH⟩:∃ H,H=(if (1+d%15)*(1+t%3)+a%(1+d%15)<60 then (1+d%15)*(1+t%3)+a%(1+d%15) else 60):=⟨_,rfl⟩
  obtain ⟨W,hW⟩:∃ W,W=(if (1+d%15)*(1+m%3)+b%(1+d%15)<60 then (1+d%15)*(1+m%3)+b%(1+d%15) else 60):=⟨_,rfl⟩
  have go:=go H W hH hW
  have bH:1≤H∧H≤60:=by rw [hH];split<;>omega
  have bW:1≤W∧W≤60:=by rw [hW];split<;>omega
  have hmd:∀ z,op2 addI (fC (.int 1)) (op2 modI (fun env=>getF env 3) (fun env=>getF env 4)) (.F (.int c)::.F (.int w)::.F (.int a)::.F (.int b)::.F (.int (1+d%15))::z)=some (.int (1+b%(1+d%15))):=fun z=>(op2_v rfl ((op2_v rfl rfl).trans (mod_in (by omega)))).trans (add_v _ _)
  have c4:w=4∨w=5:=by omega
  rcases c4 with rfl | rfl
  · refine ⟨H,W,1+d%15,p (go.trans (ret_v ?_)),bH,bW,by omega,by omega⟩
    unfold fTup
    rw [cons_v rfl (cons_v (idx_v (by unfold fLst;rw [cons_v rfl (cons_v (hmd _) nil_v)];rfl) rfl rfl) (cons_v rfl nil_v))]
    rfl
  · refine ⟨H,1+b%(1+d%15),1+d%15,p (go.trans (ret_v ?_)),bH,by omega,by omega,by omega⟩
    unfold fTup
    rw [cons_v rfl (cons_v (idx_v (by unfold fLst;rw [cons_v rfl (cons_v (hmd _) nil_v)];rfl) rfl rfl) (cons_v rfl nil_v))]
    rfl
end K22
namespace K22
open PySem Mi
abbrev Pt:=Int×Int
theorem pls_cel (ps:List Pt):pls (ps.map cel)=true:=plsMap ps fun p _=>rfl
theorem dep_cel1 (p:Pt):dep (cel p)≤1:=by unfold cel dep deps deps;rw [dep_int,dep_int];simp [deps]
theorem pl_cels (ps:List Pt):pl (.lst (ps.map cel))=true:=by unfold pl;exact pls_cel ps
theorem pls_sh (ss:List Sh):pls (ss.map Sh.d)=true:=plsMap ss fun p _=>rfl
theorem pl_shs (ss:List Sh):pl (.lst (ss.map Sh.d))=true:=by unfold pl;exact pls_sh ss
theorem dep_sh1 (s:Sh):dep s.d≤1:=by unfold Sh.d dep deps deps deps deps;rw [dep_int,dep_int,dep_int];simp [deps,dep]
theorem dep_shs (ss:List Sh):dep (.lst (ss.map Sh.d))≤60:=Nat.le_trans (dep_lst (n:=1) fun d hd=>by obtain ⟨s,_,rfl⟩:=List.mem_map.mp hd;exact dep_sh1 s) (by omega)
theorem itR1_z {f:Fe} {env:En} {j:Int} {n:Nat} (h:f env=some (.int j)) (hn:j.toNat=n) (h1:-1000≤j) (h2:j≤1000):itR1 f env=some (rangeL 0 n):=by
  unfold itR1;rw [h,Option.bind_some];dsimp only
  rw [if_pos (show rngOk j=true from decide_eq_true (by omega)),hn]
def bodyD (s:Sh):D:=.lst (s.cs.map cel)
def along (R C l:Nat):List Sh:=(List.range R).flatMap fun i=>(List.range (C+1-l)).map fun j=>⟨(i:Nat),(j:Nat),false,l⟩
def downs (R C l:Nat):List Sh:=(List.range (R+1-l)).flatMap fun i=>(List.range C).map fun j=>⟨(i:Nat),(j:Nat),true,l⟩
def shD (dn:Bool) (n:Nat) (i:Int):D→D
  | .int j=>Sh.d ⟨i,j,dn,n⟩
  | _=>.non
def rowD (dn:Bool) (n m:Nat):D→List D
  | .int i=>(rangeL 0 m).map (shD dn n i)
  | _=>[]
theorem along_d (R C l:Nat):(rangeL 0 R).flatMap (rowD false l (C+1-l))=(along R C l).map Sh.d:=by
  rw [rng_flat];unfold along;rw [List.map_flatMap]
  congr 1;funext i
  show (rangeL 0 (C+1-l)).map (shD false l i)=_
  rw [rng_map,List.map_map];rfl
theorem downs_d (R C l:Nat):(rangeL 0 (R+1-l)).flatMap (rowD true l C)=(downs R C l).map Sh.d:=by
  rw [rng_flat];unfold downs;rw [List.map_flatMap]
  congr 1;funext i
  show (rangeL 0 C).map (shD true l i)=_
  rw [rng_map,List.map_map];rfl
theorem flat_le {α β:Type} {g:α→List β} {B:Nat}:∀ (ds:List α),(∀ d∈ds,(g d).length≤B)→(ds.flatMap g).length≤B*ds.length
  | [],_=>by simp
  | d::ds,h=>by
    rw [List.flatMap_cons,List.length_append,List.length_cons,Nat.mul_succ]
    have:=h d List.mem_cons_self
    have:=flat_le ds fun x hx=>h x (List.mem_cons_of_mem _ hx)
    omega
theorem along_len (R C l:Nat) (hR:R≤60) (hC:C≤60):(along R C l).length≤3660:=by
  have h:=flat_le (g:=fun (i:Nat)=>(List.range (C+1-l)).map fun (j:Nat)=>(⟨(i:Nat),(j:Nat),false,l⟩:Sh)) (B:=61) (List.range R) fun a _=>by simp;omega
  rw [List.length_range] at h
  exact Nat.le_trans h (by omega)
theorem downs_len (R C l:Nat) (hR:R≤60) (hC:C≤60):(downs R C l).length≤3660:=by
  have h:=flat_le (g:=fun (i:Nat)=>(List.range C).map fun (j:Nat)=>(⟨(i:Nat),(j:Nat),true,l⟩:Sh)) (B:=60) (List.range (R+1-l)) fun a _=>by simp;omega
  rw [List.length_range] at h
  exact Nat.le_trans h (by omega)
theorem along_n {R C l:Nat} {s:Sh} (h:s∈along R C l):s.n=l:=by
  obtain ⟨i,_,h⟩:=List.mem_flatMap.mp h
  obtain ⟨j,_,rfl⟩:=List.mem_map.mp h;rfl
theorem downs_n {R C l:Nat} {s:Sh} (h:s∈downs R C l):s.n=l:=by
  obtain ⟨i,_,h⟩:=List.mem_flatMap.mp h
  obtain ⟨j,_,rfl⟩:=List.mem_map.mp h;rfl
def allB (R C l:Nat):List Sh:=along R C l++downs R C l
theorem allB_n {R C l:Nat} {s:Sh} (h:s∈allB R C l):s.n=l:=by
  rcases List.mem_append.mp h with h | h
  · exact along_n h
  · exact downs_n h
theorem allB_len (R C l:Nat) (hR:R≤60) (hC:C≤60):(allB R C l).length≤7320:=by
  have:=along_len R C l hR hC
  have:=downs_len R C l hR hC
  unfold allB;rw [List.length_append];omega
def ofSh (f:Sh→D) (n:Nat):D→D
  | .tup [.int a,.int b,.str w,_]=>f ⟨a,b,w==sDn,n⟩
  | _=>.non
theorem ofSh_d (f:Sh→D) (s:Sh):ofSh f s.n s.d=f s:=by
  obtain ⟨a,b,dn,n⟩:=s
  cases dn<;>rfl
theorem bodies_ok (R C l:Nat) (hR:R≤60) (hC:C≤60) (hl:l≤60):m_bodies_of [.int R,.int C,.int l]=some (.lst ((allB R C l).map bodyD)):=by
  have b1:=along_len R C l hR hC
  have b2:=downs_len R C l hR hC
  have a1:compF (itR1 (fun env=>getF env 0)) [0] (tgN 0) (fun _=>some true) (moreF (itR1 (op2 addI (op2 subI (fun env=>getF env 2) (fun env=>getF env 3)) (fC (.int 1)))) [1] (tgN 1) (fun _=>some true) (emitF (fTup (fCons (fun env=>getF env 0) (fCons (fun env=>getF env 1) (fCons (fC (.str (Str.ofString "along"))) (fCons (fun env=>getF env 3) fNil))))))) 2 [1,2] (startE 5 [.int R,.int C,.int l])=some (.lst ((along R C l).map Sh.d)):=by
    refine comp_v (itR1_v (n:=R) rfl (by omega)) rfl ?_ (by rw [List.length_map];omega)
    rw [← along_d]
    refine go_flat _ _ fun d hd=>?_
    obtain ⟨i,hi,rfl⟩:=mem_rng.mp hd
    refine ⟨[.F (.int i),.un,.F (.int C),.F (.int l)],rfl,rfl,more_v (itR1_z (j:=(C:Int)-l+1) ((op2_v ((op2_v rfl rfl).trans (sub_v _ _)) rfl).trans (add_v _ _)) (n:=C+1-l) (by omega) (by omega) (by omega)) rfl ?_⟩
    refine go_map1 (shD false l i) _ fun d hd=>?_
    obtain ⟨j,hj,rfl⟩:=mem_rng.mp hd
    exact ⟨_,rfl,rfl⟩
  have a2:compF (itR1 (op2 addI (op2 subI (fun env=>getF env 0) (fun env=>getF env 2)) (fC (.int 1)))) [0] (tgN 0) (fun _=>some true) (moreF (itR1 (fun env=>getF env 2)) [1] (tgN 1) (fun _=>some true) (emitF (fTup (fCons (fun env=>getF env 0) (fCons (fun env=>getF env 1) (fCons (fC (.str (Str.ofString "down"))) (fCons (fun env=>getF env 3) fNil))))))) 2 [1,2] [.F (.int R),.F (.int C),.F (.int l),.F (.lst ((along R C l).map Sh.d)),.un]=some (.lst ((downs R C l).map Sh.d)):=by
    refine comp_v (itR1_z (j:=(R:Int)-l+1) ((op2_v ((op2_v rfl rfl).trans (sub_v _ _)) rfl).trans (add_v _ _)) (n:=R+1-l) (by omega) (by omega) (by omega)) rfl ?_ (by rw [List.length_map];omega)
    rw [← downs_d]
    refine go_flat _ _ fun d hd=>?_
    obtain ⟨i,hi,rfl⟩:=mem_rng.mp hd
    refine ⟨[.F (.int i),.un,.F (.int C),.F (.int l)],rfl,rfl,more_v (itR1_v (n:=C) rfl (by omega)) rfl ?_⟩
    refine go_map1 (shD true l i) _ fun d hd=>?_
    obtain ⟨j,hj,rfl⟩:=mem_rng.mp hd
    exact ⟨_,rfl,rfl⟩
  refine run_v ((seq_v (set_v a1)).trans ((seq_v (set_v a2)).trans (ret_v (comp_v (itL_v (ds:=(allB R C l).map Sh.d) ((addL_v rfl rfl (by rw [List.length_map,List.length_map];omega)).trans (by unfold allB;rw [List.map_append]))) rfl ?_ (by rw [List.length_map];unfold allB;rw [List.length_append];omega)))))
  have:=go_map1 (t:=tgN 0) (k:=emitF (fun env=>((fCons (fun env=>getF env 0) fNil) env).bind m_cells_of)) (env:=[.un]) (ofSh bodyD l) ((allB R C l).map Sh.d) fun d hd=>by
    obtain ⟨s,hs,rfl⟩:=List.mem_map.mp hd
    have hn:=allB_n hs
    refine ⟨[.F s.d],rfl,emit_v ((call_v rfl).trans ((cellsof_ok s (by omega)).trans ?_))⟩
    rw [← hn,ofSh_d];rfl
  refine this.trans ?_
  rw [List.map_map]
  refine congrArg some (List.map_congr_left fun s hs=>?_)
  show ofSh bodyD l s.d=_
  rw [← allB_n hs,ofSh_d]
abbrev eR (R C l:Nat) (acc:List D) (s4 s5:Slot):En:=[.F (.int R),.F (.int C),.F (.int l),.O (.L acc),s4,s5]
def bD (dn:Bool) (n:Nat) (i:Int):D→List D
  | .int j=>[bodyD ⟨i,j,dn,n⟩]
  | _=>[]
def bRow (dn:Bool) (n m:Nat):D→List D
  | .int i=>(rangeL 0 m).flatMap (bD dn n i)
  | _=>[]
theorem bD_len (dn:Bool) (n:Nat) (i:Int) (d:D):(bD dn n i d).length≤1:=by cases d<;>simp [bD]
theorem bRow_len (dn:Bool) (n m:Nat) (d:D):(bRow dn n m d).length≤m:=by
  cases d<;>simp only [bRow,List.length_nil,Nat.zero_le]
  rename_i i
  have:=len_flat (g:=bD dn n i) (B:=1) (rangeL 0 m) fun d _=>bD_len ..
  rw [rng_len] at this;omega
theorem run1 (R C l:Nat) (hl:l≤60) (i j:Nat) (acc:List D) (ha:acc.length<8000):B__law_runs_1 (eR R C l acc (.F (.int i)) (.F (.int j)))=some (.nx (eR R C l (acc++bD false l i (.int j)) (.F (.int i)) (.F (.int j)))):=by
  refine app_v rfl (comp_v (itR1_v (n:=l) rfl (by omega)) rfl (xs:=(Sh.cs ⟨i,j,false,l⟩).map cel) ?_ (by rw [List.length_map,cs_len];show l≤_;omega)) (by omega)
  rw [← cs_map]
  refine go_map1 (atD ⟨i,j,false,l⟩) _ fun d hd=>?_
  obtain ⟨k,hk,rfl⟩:=mem_rng.mp hd
  exact ⟨_,rfl,rfl⟩
theorem run3 (R C l:Nat) (hl:l≤60) (i j:Nat) (acc:List D) (ha:acc.length<8000):B__law_runs_3 (eR R C l acc (.F (.int i)) (.F (.int j)))=some (.nx (eR R C l (acc++bD true l i (.int j)) (.F (.int i)) (.F (.int j)))):=by
  refine app_v rfl (comp_v (itR1_v (n:=l) rfl (by omega)) rfl (xs:=(Sh.cs ⟨i,j,true,l⟩).map cel) ?_ (by rw [List.length_map,cs_len];show l≤_;omega)) (by omega)
  rw [← cs_map]
  refine go_map1 (atD ⟨i,j,true,l⟩) _ fun d hd=>?_
  obtain ⟨k,hk,rfl⟩:=mem_rng.mp hd
  exact ⟨_,rfl,rfl⟩
theorem run2 (R C l:Nat) (hC:C≤60) (hl:l≤60) (i:Nat) (acc:List D) (s5:Slot) (ha:acc.length+61≤8000):∃ s5',B__law_runs_2 (eR R C l acc (.F (.int i)) s5)=some (.nx (eR R C l (acc++bRow false l (C+1-l) (.int i)) (.F (.int i)) s5')):=by
  obtain ⟨e2,h1,s,h2⟩:=loop_acc (t:=tgN 5) (body:=B__law_runs_1) (fun acc e=>∃ s,e=eR R C l acc (.F (.int i)) s) (bD false l i) 1 8000 (rangeL 0 (C+1-l)) acc (eR R C l acc (.F (.int i)) s5) ⟨_,rfl⟩ (by rw [rng_len];omega) fun d hd=>⟨bD_len ..,fun acc' e ⟨s,he⟩ hl'=>by
      subst he
      obtain ⟨j,hj,rfl⟩:=mem_rng.mp hd
      exact ⟨_,tg_v (e0:=eR R C l acc' (.F (.int i)) (.F (.int j))) rfl (run1 R C l hl i j acc' (by omega)),_,rfl⟩⟩
  subst h2
  exact ⟨s,(for_v (itR1_z (j:=(C:Int)-l+1) ((op2_v ((op2_v rfl rfl).trans (sub_v _ _)) rfl).trans (add_v _ _)) (n:=C+1-l) (by omega) (by omega) (by omega))).trans h1⟩
theorem run4 (R C l:Nat) (hC:C≤60) (hl:l≤60) (i:Nat) (acc:List D) (s5:Slot) (ha:acc.length+61≤8000):∃ s5',B__law_runs_4 (eR R C l acc (.F (.int i)) s5)=some (.nx (eR R C l (acc++bRow true l C (.int i)) (.F (.int i)) s5')):=by
  obtain ⟨e2,h1,s,h2⟩:=loop_acc (t:=tgN 5) (body:=B__law_runs_3) (fun acc e=>∃ s,e=eR R C l acc (.F (.int i)) s) (bD true l i) 1 8000 (rangeL 0 C) acc (eR R C l acc (.F (.int i)) s5) ⟨_,rfl⟩ (by rw [rng_len];omega) fun d hd=>⟨bD_len ..,fun acc' e ⟨s,he⟩ hl'=>by
      subst he
      obtain ⟨j,hj,rfl⟩:=mem_rng.mp hd
      exact ⟨_,tg_v (e0:=eR R C l acc' (.F (.int i)) (.F (.int j))) rfl (run3 R C l hl i j acc' (by omega)),_,rfl⟩⟩
  subst h2
  exact ⟨s,(for_v (itR1_v (n:=C) rfl (by omega))).trans h1⟩
theorem bRow_sh (dn:Bool) (l m n:Nat):(rangeL 0 n).flatMap (bRow dn l m)=((List.range n).flatMap fun i=>(List.range m).map fun j=>(⟨(i:Nat),(j:Nat),dn,l⟩:Sh)).map bodyD:=by
  rw [rng_flat,List.map_flatMap]
  congr 1;funext i
  show (rangeL 0 m).flatMap (bD dn l i)=_
  rw [rng_flat,List.map_map]
  show ((List.range m).flatMap fun (j:Nat)=>[bodyD ⟨i,j,dn,l⟩])=_
  induction List.range m with
  | nil=>rfl
  | cons a as ih=>rw [List.flatMap_cons,ih];rfl
def lawB (R C l:Nat):List Sh:=along R C l++if 1<l then downs R C l else []
theorem runs_ok (R C l:Nat) (hR:R≤60) (hC:C≤60) (hl:l≤60):m__law_runs [.int R,.int C,.int l]=some (.lst ((lawB R C l).map bodyD)):=by
  obtain ⟨e2,h1,s4,s5,h2⟩:=loop_acc (t:=tgN 4) (body:=B__law_runs_2) (fun acc e=>∃ s4 s5,e=eR R C l acc s4 s5) (bRow false l (C+1-l)) 61 8000 (rangeL 0 R) [] (eR R C l [] .un .un) ⟨_,_,rfl⟩ (by rw [rng_len];simp only [List.length_nil];omega) fun d hd=>⟨Nat.le_trans (bRow_len ..) (by omega),fun acc' e ⟨s4,s5,he⟩ hl'=>by
      subst he
      obtain ⟨i,hi,rfl⟩:=mem_rng.mp hd
      obtain ⟨s5',h⟩:=run2 R C l hC hl i acc' s5 hl'
      exact ⟨_,tg_v (e0:=eR R C l acc' (.F (.int i)) s5) rfl h,_,_,rfl⟩⟩
  subst h2
  rw [List.nil_append,bRow_sh] at h1
  change _=some (Out.nx (eR R C l ((along R C l).map bodyD) s4 s5)) at h1
  have ba:=along_len R C l hR hC
  have hgt:un1 intD (op2 gtI (fun env=>getF env 2) (fC (.int 1))) (eR R C l ((along R C l).map bodyD) s4 s5)=some (.int (if decide ((l:Int)>1)=true then 1 else 0)):=rfl
  have hmul:op2 mulI (op2 addI (op2 subI (fun env=>getF env 0) (fun env=>getF env 2)) (fC (.int 1))) (un1 intD (op2 gtI (fun env=>getF env 2) (fC (.int 1)))) (eR R C l ((along R C l).map bodyD) s4 s5)=some (.int (((R:Int)-l+1)*(if decide ((l:Int)>1)=true then 1 else 0))):=
    (op2_v ((op2_v ((op2_v rfl rfl).trans (sub_v _ _)) rfl).trans (add_v _ _)) hgt).trans (mul_in (by omega) (by omega) (by split<;>omega) (by split<;>omega))
  by_cases h:1<l
  · obtain ⟨e3,g1,s4',s5',g2⟩:=loop_acc (t:=tgN 4) (body:=B__law_runs_4) (fun acc e=>∃ s4 s5,e=eR R C l acc s4 s5) (bRow true l C) 61 8000 (rangeL 0 (R+1-l)) ((along R C l).map bodyD) (eR R C l ((along R C l).map bodyD) s4 s5) ⟨_,_,rfl⟩ (by rw [rng_len,List.length_map];omega) fun d hd=>⟨Nat.le_trans (bRow_len ..) (by omega),fun acc' e ⟨s4,s5,he⟩ hl'=>by
      subst he
      obtain ⟨i,hi,rfl⟩:=mem_rng.mp hd
      obtain ⟨s5',h⟩:=run4 R C l hC hl i acc' s5 hl'
      exact ⟨_,tg_v (e0:=eR R C l acc' (.F (.int i)) s5) rfl h,_,_,rfl⟩⟩
    subst g2
    rw [bRow_sh] at g1
    change _=some (Out.nx (eR R C l ((along R C l).map bodyD++(downs R C l).map bodyD) s4' s5')) at g1
    rw [← List.map_append,show along R C l++downs R C l=lawB R C l by unfold lawB;rw [if_pos h]] at g1
    exact run_v ((seq_v (setO_v rfl)).trans ((seq_v ((for_v (itR1_v (n:=R) rfl (by omega))).trans h1)).trans ((seq_v ((for_v (itR1_z (n:=R+1-l) hmul (by rw [decide_eq_true (by omega),if_pos rfl];omega) (by rw [decide_eq_true (by omega),if_pos rfl];omega) (by rw [decide_eq_true (by omega),if_pos rfl];omega))).trans g1)).trans rfl)))
  · rw [show along R C l=lawB R C l by unfold lawB;rw [if_neg h,List.append_nil]] at h1 hmul
    exact run_v ((seq_v (setO_v rfl)).trans ((seq_v ((for_v (itR1_v (n:=R) rfl (by omega))).trans h1)).trans ((seq_v ((for_v (itR1_z (n:=0) hmul (by rw [decide_eq_false (by omega)];simp) (by rw [decide_eq_false (by omega)];simp) (by rw [decide_eq_false (by omega)];simp))).trans rfl)).trans rfl)))
end K22
namespace K22
open PySem Mi
def inB (R C:Nat) (p:Pt):Bool:=inR R (.int p.1)&&inR C (.int p.2)
def hit (ps:List Pt) (s:Sh):Bool:=s.cs.any fun q=>decide (q∈ps)
def netB (R C l:Nat) (ps:List Pt):Bool:=ps.all (inB R C)&&(decide ps.Nodup&&(allB R C l).all (hit ps))
def ofC (f:Pt→D):D→D
  | .tup [.int a,.int b]=>f (a,b)
  | _=>.non
theorem ofC_map (f:Pt→D) (ps:List Pt):(ps.map cel).map (ofC f)=ps.map f:=by
  rw [List.map_map];rfl
def ofCb (f:Pt→Bool):D→Bool
  | .tup [.int a,.int b]=>f (a,b)
  | _=>false
theorem ofCb_filter (f:Pt→Bool):∀ (ps:List Pt),(ps.map cel).filter (ofCb f)=(ps.filter f).map cel
  | []=>rfl
  | p::ps=>by
    rw [List.map_cons,List.filter_cons,List.filter_cons,ofCb_filter f ps]
    show (if f (p.1,p.2)=true then _ else _)=_
    split<;>rfl
theorem dd_mem (ps:List Pt) (q:Pt):decide (q∈ddP ps)=decide (q∈ps):=by rw [decide_eq_decide];exact ddP_mem ps q
theorem map_id' (xs:List D):xs.map (fun d=>d)=xs:=by induction xs with | nil=>rfl | cons a as ih=>rw [List.map_cons,ih]
theorem bls_map {α:Type} (f:α→Bool) (xs:List α):(xs.map fun x=>D.bl (f x))=(xs.map f).map .bl:=by rw [List.map_map];rfl
def unC (ds:List D):List Pt:=ds.map fun d=>match d with | .tup [.int a,.int b]=>(a,b) | _=>(0,0)
theorem unC_cel (ps:List Pt):unC (ps.map cel)=ps:=by
  unfold unC;rw [List.map_map]
  exact (List.map_congr_left (g:=id) fun p _=>rfl).trans (List.map_id ps)
def hitD (ps:List Pt):D→D
  | .lst ds=>.bl ((unC ds).any fun q=>decide (q∈ps))
  | _=>.non
theorem hitD_body (ps:List Pt) (s:Sh):hitD ps (bodyD s)=.bl (hit ps s):=by
  show D.bl ((unC (s.cs.map cel)).any _)=_;rw [unC_cel];rfl
theorem go_cel {t:Ft} {k:En→Option (List D)} {env:En} (f:Pt→D) (ps:List Pt) (h:∀ p∈ps,∃ e1,t (cel p) env=some e1∧k e1=some [f p]):goF t (fun _=>some true) k env (ps.map cel)=some (ps.map f):=
  (go_map1 (ofC f) (ps.map cel) fun d hd=>by
    obtain ⟨p,hp,rfl⟩:=List.mem_map.mp hd
    exact h p hp).trans (congrArg some (ofC_map f ps))
theorem loop_nx {t:Ft} {body:Fs} {d:D} {ds:List D} {env e1:En} (h:(t d env).bind body=some (.nx e1)):loopF t body (d::ds) env=loopF t body ds e1:=by
  obtain ⟨e0,h5,h6⟩:=Option.bind_eq_some_iff.mp h
  show (t d env).bind (fun e1=>(body e1).bind _)=_
  rw [h5]
  show (body e0).bind _=_
  rw [h6]
  rfl
theorem loop_rt {t:Ft} {body:Fs} {d x:D} {ds:List D} {env:En} (h:(t d env).bind body=some (.rt x)):loopF t body (d::ds) env=some (.rt x):=by
  obtain ⟨e0,h5,h6⟩:=Option.bind_eq_some_iff.mp h
  show (t d env).bind (fun e1=>(body e1).bind _)=_
  rw [h5]
  show (body e0).bind _=_
  rw [h6]
  rfl
theorem isnet_ok (R C l:Nat) (hR:R≤60) (hC:C≤60) (hl:l≤60) (ps:List Pt) (hp:ps.length≤3600):m_is_net [.int R,.int C,.int l,.lst (ps.map cel)]=some (.bl (netB R C l ps)):=by
  have g1:fB (un1 allD (compF (itL (fun env=>getF env 3)) [0] (tgN 0) (fun _=>some true) (emitF (fun env=>((fCons (fTup (fCons (fun env=>getF env 1) (fCons (fun env=>getF env 2) fNil))) (fCons (fun env=>getF env 0) fNil)) env).bind m_is_cell)) 1 [0,1])) (startE 5 [.int R,.int C,.int l,.lst (ps.map cel)])=some (ps.all (inB R C)):=by
    refine fB_v ((all_v (bs:=ps.map (inB R C)) (comp_v (itL_v rfl) rfl ?_ (by rw [List.length_map,List.length_map];omega))).trans (by rw [List.all_map];rfl))
    rw [← bls_map]
    refine go_cel _ _ fun p _=>?_
    exact ⟨[.F (cel p),.F (.int R),.F (.int C)],rfl,emit_v ((call_v rfl).trans (cell_ok R C (.int p.1) (.int p.2)))⟩
  unfold netB
  cases ha:ps.all (inB R C) with
  | false=>
    rw [ha] at g1
    exact run_v (seqR_v ((ifT_v (not_v g1)).trans rfl))
  | true=>
    rw [ha] at g1
    have e1:setF 4 (un1 setD (fun env=>getF env 3)) (startE 5 [.int R,.int C,.int l,.lst (ps.map cel)])=some (.nx [.F (.int R),.F (.int C),.F (.int l),.F (.lst (ps.map cel)),.F (.st (ddP ps))]):=set_v (set_v' rfl (unPr_map (fun _=>rfl) ps) (by omega))
    obtain ⟨d1,d2⟩:=ddP_len (l:=ps)
    have g2:fB (op2 ltI (un1 lenS (fun env=>getF env 4)) (un1 lenD (fun env=>getF env 3))) [.F (.int R),.F (.int C),.F (.int l),.F (.lst (ps.map cel)),.F (.st (ddP ps))]=some (!decide ps.Nodup):=by
      refine fB_v ((op2_v (x:=.int ((ddP ps).length:Nat)) rfl (len_v rfl)).trans ((lt_v _ _).trans ?_))
      rw [List.length_map]
      congr 2
      by_cases hn:ps.Nodup
      · rw [decide_eq_true hn,decide_eq_false];rfl
        have:=d2.mpr hn;omega
      · rw [decide_eq_false hn,decide_eq_true];rfl
        have h2:(ddP ps).length≠ps.length:=fun h=>hn (d2.mp h)
        omega
    cases hn:decide ps.Nodup with
    | false=>
      rw [hn] at g2
      exact run_v ((seq_v ((ifE_v (not_v g1)).trans rfl)).trans ((seq_v e1).trans (seqR_v ((ifT_v g2).trans rfl))))
    | true=>
      rw [hn] at g2
      refine run_v ((seq_v ((ifE_v (not_v g1)).trans rfl)).trans ((seq_v e1).trans ((seq_v ((ifE_v g2).trans rfl)).trans (ret_v ?_))))
      refine (all_v (bs:=(allB R C l).map (hit ps)) (comp_v (itL_v ((call_v rfl).trans (bodies_ok R C l hR hC hl))) rfl ?_ (by rw [List.length_map,List.length_map];have:=allB_len R C l hR hC;omega))).trans (by rw [List.all_map];rfl)
      have:=go_map1 (t:=tgN 0) (k:=emitF (un1 anyD (compF (itL (fun env=>getF env 0)) [0] (tgN 0) (fun _=>some true) (emitF (op2 (inS false) (fun env=>getF env 0) (fun env=>getF env 1))) 1 [1]))) (env:=[.un,.F (.st (ddP ps))]) (hitD ps) ((allB R C l).map bodyD) fun d hd=>by
        obtain ⟨s,hs,rfl⟩:=List.mem_map.mp hd
        refine ⟨[.F (bodyD s),.F (.st (ddP ps))],rfl,emit_v ?_⟩
        rw [hitD_body]
        refine (any_v (bs:=s.cs.map fun q=>decide (q∈ps)) (comp_v (itL_v (ds:=s.cs.map cel) rfl) rfl ?_ (by rw [List.length_map,List.length_map,cs_len,allB_n hs];omega))).trans (by rw [List.any_map];rfl)
        rw [← bls_map]
        refine go_cel _ _ fun p _=>?_
        refine ⟨[.F (cel p),.F (.st (ddP ps))],rfl,emit_v ((op2_v rfl rfl).trans ?_)⟩
        show some (D.bl (decide (p∈ddP ps)))=some (.bl (decide (p∈ps)))
        rw [dd_mem]
      refine this.trans ?_
      rw [List.map_map,← bls_map]
      exact congrArg some (List.map_congr_left fun s hs=>hitD_body ps s)
theorem lawB_n {R C l:Nat} {s:Sh} (h:s∈lawB R C l):s.n=l:=by
  unfold lawB at h
  rcases List.mem_append.mp h with h | h
  · exact along_n h
  · split at h
    · exact downs_n h
    · cases h
theorem hit_eq (R C l:Nat) (hl:1≤l) (ps:List Pt):(lawB R C l).all (hit ps)=(allB R C l).all (hit ps):=by
  unfold lawB allB
  split
  · rfl
  · rename_i h
    have:l=1:=by omega
    subst this
    rw [List.append_nil,List.all_append]
    cases ha:(along R C 1).all (hit ps) with
    | false=>rfl
    | true=>
      rw [Bool.true_and];symm
      rw [List.all_eq_true] at ha ⊢
      intro s hs
      obtain ⟨i,hi,h2⟩:=List.mem_flatMap.mp hs
      obtain ⟨j,hj,rfl⟩:=List.mem_map.mp h2
      have:=ha ⟨i,j,false,1⟩ (List.mem_flatMap.mpr ⟨i,List.mem_range.mpr (by have:=List.mem_range.mp hi;omega),List.mem_map.mpr ⟨j,List.mem_range.mpr (by have:=List.mem_range.mp hj;omega),rfl⟩⟩)
      have e:(⟨i,j,true,1⟩:Sh).cs=(⟨i,j,false,1⟩:Sh).cs:=by
        show [((i:Int)+(0:Nat),(j:Int))]=[((i:Int),(j:Int)+(0:Nat))]
        simp
      unfold hit at this ⊢
      rw [e];exact this
theorem neNil_v {f:Fe} {env:En} {xs:List D} (h:f env=some (.lst xs)) (hp:pls xs=true):op2 neF f (fLst fNil) env=some (.bl !xs.isEmpty):=
  ne_d h rfl (ok_r (by unfold dep deps;omega) (by unfold pl;rw [hp];rfl)) (eqD_nil xs)
theorem filt_empty {α:Type} (p:α→Bool):∀ (xs:List α),(xs.filter p).isEmpty=!xs.any p
  | []=>rfl
  | x::xs=>by
    rw [List.filter_cons,List.any_cons]
    cases h:p x with
    | true=>rfl
    | false=>rw [if_neg (by simp),filt_empty p xs];rfl
theorem any_not {α:Type} (p:α→Bool) (xs:List α):(xs.any fun x=>!p x)=!xs.all p:=by
  rw [List.not_all_eq_any_not]
abbrev eN (R C l:Nat) (ps:List Pt) (s5:Slot):En:=[.F (.int R),.F (.int C),.F (.int l),.F (.lst (ps.map cel)),.F (.dct (ddP ps)),s5]
theorem net1 (R C l:Nat) (ps:List Pt) (s:Sh) (hs:s.n≤60):B__law_is_net_1 (eN R C l ps (.F (bodyD s)))=if hit ps s=true then some (.nx (eN R C l ps (.F (bodyD s)))) else some (.rt (.bl false)):=by
  have g:fB (op2 eqF (compF (itL (fun env=>getF env 5)) [0] (tgN 0) (fB (op2 (inQ false) (fun env=>getF env 0) (fun env=>getF env 1))) (emitF (fun env=>getF env 0)) 1 [4]) (fLst fNil)) (eN R C l ps (.F (bodyD s)))=some (!hit ps s):=by
    refine fB_v ((eqNil_v (xs:=(s.cs.filter fun q=>decide (q∈ps)).map cel) (comp_v (itL_v (ds:=s.cs.map cel) rfl) rfl ?_ ?_) (pls_cel _)).trans ?_)
    · have:=go_map (t:=tgN 0) (c:=fB (op2 (inQ false) (fun env=>getF env 0) (fun env=>getF env 1))) (k:=emitF (fun env=>getF env 0)) (env:=[.un,.F (.dct (ddP ps))]) (ofCb fun q=>decide (q∈ps)) (fun d=>d) (s.cs.map cel) fun d hd=>by
        obtain ⟨p,_,rfl⟩:=List.mem_map.mp hd
        refine ⟨[.F (cel p),.F (.dct (ddP ps))],rfl,fB_v ((op2_v rfl rfl).trans ?_),fun _=>rfl⟩
        show some (D.bl (decide (p∈ddP ps)))=some (.bl (decide (p∈ps)))
        rw [dd_mem]
      rw [map_id',ofCb_filter] at this
      exact this
    · rw [List.length_map]
      have:=List.length_filter_le (fun q=>decide (q∈ps)) s.cs
      rw [cs_len] at this;omega
    · have:∀ xs:List Pt,(xs.map cel).isEmpty=xs.isEmpty:=fun xs=>by cases xs<;>rfl
      rw [this,filt_empty];rfl
  unfold B__law_is_net_1
  cases h:hit ps s with
  | true=>rw [h] at g;exact (ifE_v g).trans rfl
  | false=>rw [h] at g;exact (ifT_v g).trans rfl
theorem net_loop (R C l:Nat) (ps:List Pt):∀ (ss:List Sh) (s5:Slot),(∀ s∈ss,s.n≤60)→if ss.all (hit ps)=true then ∃ s5',loopF (tgN 5) B__law_is_net_1 (ss.map bodyD) (eN R C l ps s5)=some (.nx (eN R C l ps s5')) else loopF (tgN 5) B__law_is_net_1 (ss.map bodyD) (eN R C l ps s5)=some (.rt (.bl false))
  | [],s5,_=>by simp only [List.all_nil,if_true];exact ⟨s5,rfl⟩
  | s::ss,s5,hn=>by
    have h1:=net1 R C l ps s (hn s List.mem_cons_self)
    have ih:=net_loop R C l ps ss (.F (bodyD s)) fun x hx=>hn x (List.mem_cons_of_mem _ hx)
    rw [List.map_cons,List.all_cons]
    cases h:hit ps s with
    | true=>
      rw [h,if_pos rfl] at h1
      rw [Bool.true_and,loop_nx (tg_v (e0:=eN R C l ps (.F (bodyD s))) rfl h1)];exact ih
    | false=>
      rw [h,if_neg (by simp)] at h1
      rw [Bool.false_and,if_neg (by simp)];exact loop_rt (tg_v (e0:=eN R C l ps (.F (bodyD s))) rfl h1)
theorem lawnet_ok (R C l:Nat) (hR:R≤60) (hC:C≤60) (hl1:1≤l) (hl:l≤60) (ps:List Pt) (hp:ps.length≤3600):m__law_is_net [.int R,.int C,.int l,.lst (ps.map cel)]=some (.bl (netB R C l ps)):=by
  have e1:setF 4 (un1 dictQ (compF (itL (fun env=>getF env 3)) [0] (tgN 0) (fun _=>some true) (emitF (fTup (fCons (fun env=>getF env 0) (fCons (fC (.bl true)) fNil)))) 1 [])) (startE 6 [.int R,.int C,.int l,.lst (ps.map cel)])=some (.nx (eN R C l ps .un)):=by
    refine set_v (dict_v' (ds:=ps.map fun p=>.tup [cel p,.bl true]) (comp_v (itL_v rfl) rfl ?_ (by rw [List.length_map];omega)) (unPT_map (fun _=>rfl) ps) (by omega))
    exact go_cel _ _ fun p _=>⟨[.F (cel p)],rfl,rfl⟩
  obtain ⟨d1,d2⟩:=ddP_len (l:=ps)
  have g1:fB (op2 neF (un1 lenQ' (fun env=>getF env 4)) (un1 lenD (fun env=>getF env 3))) (eN R C l ps .un)=some (!decide ps.Nodup):=by
    refine fB_v ((op2_v (x:=.int ((ddP ps).length:Nat)) rfl (len_v rfl)).trans ((ne_v _ _).trans ?_))
    rw [List.length_map]
    congr 3
    by_cases hn:ps.Nodup
    · rw [decide_eq_true hn,beq_iff_eq]
      have:=d2.mpr hn;omega
    · rw [decide_eq_false hn,beq_eq_false_iff_ne]
      have h2:(ddP ps).length≠ps.length:=fun h=>hn (d2.mp h)
      omega
  have g2:fB (op2 neF (compF (itL (fun env=>getF env 3)) [0] (tgN 0) (notB (andB (fB (chF leI ltI (fC (.int 0)) (op2 idxD (fun env=>getF env 0) (fC (.int 0))) (fun env=>getF env 1))) (fB (chF leI ltI (fC (.int 0)) (op2 idxD (fun env=>getF env 0) (fC (.int 1))) (fun env=>getF env 2))))) (emitF (fun env=>getF env 0)) 1 [0,1]) (fLst fNil)) (eN R C l ps .un)=some (!ps.all (inB R C)):=by
    refine fB_v ((neNil_v (xs:=(ps.filter fun q=>!inB R C q).map cel) (comp_v (itL_v rfl) rfl ?_ ?_) (pls_cel _)).trans ?_)
    · have:=go_map (t:=tgN 0) (c:=notB (andB (fB (chF leI ltI (fC (.int 0)) (op2 idxD (fun env=>getF env 0) (fC (.int 0))) (fun env=>getF env 1))) (fB (chF leI ltI (fC (.int 0)) (op2 idxD (fun env=>getF env 0) (fC (.int 1))) (fun env=>getF env 2))))) (k:=emitF (fun env=>getF env 0)) (env:=[.un,.F (.int R),.F (.int C)]) (ofCb fun q=>!inB R C q) (fun d=>d) (ps.map cel) fun d hd=>by
        obtain ⟨p,_,rfl⟩:=List.mem_map.mp hd
        exact ⟨[.F (cel p),.F (.int R),.F (.int C)],rfl,not_v (andB_v (fB_v (ch_v (x:=.int 0) (y:=.int p.1) (w:=.int R) rfl rfl rfl (le_v _ _) (lt_v _ _))) fun _=>fB_v (ch_v (x:=.int 0) (y:=.int p.2) (w:=.int C) rfl rfl rfl (le_v _ _) (lt_v _ _))),fun _=>rfl⟩
      rw [map_id',ofCb_filter] at this
      exact this
    · rw [List.length_map]
      have:=List.length_filter_le (fun q=>!inB R C q) ps
      omega
    · have:∀ xs:List Pt,(xs.map cel).isEmpty=xs.isEmpty:=fun xs=>by cases xs<;>rfl
      rw [this,filt_empty,any_not,Bool.not_not]
  unfold netB
  cases hn:decide ps.Nodup with
  | false=>
    rw [hn] at g1
    rw [Bool.false_and,Bool.and_false]
    exact run_v ((seq_v e1).trans (seqR_v ((ifT_v g1).trans rfl)))
  | true=>
    rw [hn] at g1
    cases ha:ps.all (inB R C) with
    | false=>
      rw [ha] at g2
      exact run_v ((seq_v e1).trans ((seq_v ((ifE_v g1).trans rfl)).trans (seqR_v ((ifT_v g2).trans rfl))))
    | true=>
      rw [ha] at g2
      have hlp:=net_loop R C l ps (lawB R C l) .un fun s hs=>by rw [lawB_n hs];exact hl
      rw [hit_eq R C l hl1 ps] at hlp
      have hf:forF (itL (fun env=>((fCons (fun env=>getF env 0) (fCons (fun env=>getF env 1) (fCons (fun env=>getF env 2) fNil))) env).bind m__law_runs)) (tgN 5) (B__law_is_net_1 ) (eN R C l ps .un)=_:=for_v (itL_v ((call_v rfl).trans (runs_ok R C l hR hC hl)))
      cases hh:(allB R C l).all (hit ps) with
      | true=>
        rw [hh,if_pos rfl] at hlp
        obtain ⟨s5,hlp⟩:=hlp
        exact run_v ((seq_v e1).trans ((seq_v ((ifE_v g1).trans rfl)).trans ((seq_v ((ifE_v g2).trans rfl)).trans ((seq_v (hf.trans hlp)).trans rfl))))
      | false=>
        rw [hh,if_neg (by simp)] at hlp
        exact run_v ((seq_v e1).trans ((seq_v ((ifE_v g1).trans rfl)).trans ((seq_v ((ifE_v g2).trans rfl)).trans (seqR_v (hf.trans hlp)))))
def unSh:D→Sh
  | .tup [.int a,.int b,.str w,.int n]=>⟨a,b,w==sDn,n.toNat⟩
  | _=>⟨0,0,false,0⟩
theorem unSh_d (s:Sh):unSh s.d=s:=by
  obtain ⟨a,b,dn,n⟩:=s
  cases dn<;>rfl
theorem go_shf {t:Ft} {k:En→Option (List D)} {env:En} (f:Sh→List D) (ss:List Sh) (h:∀ s∈ss,∃ e1,t s.d env=some e1∧k e1=some (f s)):goF t (fun _=>some true) k env (ss.map Sh.d)=some (ss.flatMap f):=by
  refine (go_flat (c:=fun _=>some true) (fun d=>f (unSh d)) (ss.map Sh.d) fun d hd=>?_).trans ?_
  · obtain ⟨s,hs,rfl⟩:=List.mem_map.mp hd
    obtain ⟨e1,h1,h2⟩:=h s hs
    exact ⟨e1,h1,rfl,by rw [unSh_d];exact h2⟩
  · rw [List.flatMap_map]
    congr 1
    have:(fun a=>f (unSh (Sh.d a)))=f:=by funext s;rw [unSh_d]
    rw [this]
def flat (ss:List Sh):List Pt:=ss.flatMap Sh.cs
def Shs (ss:List Sh):Prop:=(flat ss).length≤3600∧∀ s∈ss,s.n≤60
theorem flat_len {ss:List Sh} (h:Shs ss):(flat ss).length≤3600:=h.1
theorem lie_ok (ss:List Sh) (h:Shs ss):m_lie_apart [.lst (ss.map Sh.d)]=some (.bl (decide (flat ss).Nodup)):=by
  have hl:=flat_len h
  have e1:setF 1 (compF (itL (fun env=>getF env 0)) [0] (tgN 0) (fun _=>some true) (moreF (itL (fun env=>((fCons (fun env=>getF env 0) fNil) env).bind m_cells_of)) [1] (tgN 1) (fun _=>some true) (emitF (fun env=>getF env 1))) 2 []) (startE 2 [.lst (ss.map Sh.d)])=some (.nx [.F (.lst (ss.map Sh.d)),.F (.lst ((flat ss).map cel))]):=by
    refine set_v (comp_v (itL_v rfl) rfl ?_ (by rw [List.length_map];omega))
    have:=go_shf (t:=tgN 0) (k:=moreF (itL (fun env=>((fCons (fun env=>getF env 0) fNil) env).bind m_cells_of)) [1] (tgN 1) (fun _=>some true) (emitF (fun env=>getF env 1))) (env:=[.un,.un]) (fun s=>s.cs.map cel) ss fun s hs=>by
      refine ⟨[.F s.d,.un],rfl,more_v (itL_v ((call_v rfl).trans (cellsof_ok s (by have:=h.2 s hs;omega)))) rfl ?_⟩
      exact go_cel _ _ fun p _=>⟨[.F s.d,.F (cel p)],rfl,rfl⟩
    refine this.trans ?_
    unfold flat
    rw [List.map_flatMap]
  obtain ⟨d1,d2⟩:=ddP_len (l:=flat ss)
  refine run_v ((seq_v e1).trans (ret_v ((op2_v (x:=.int ((ddP (flat ss)).length:Nat)) ((un1_v (set_v' rfl (unPr_map (fun _=>rfl) (flat ss)) (by omega))).trans rfl) (len_v rfl)).trans ((eq_v _ _).trans ?_))))
  rw [List.length_map]
  congr 2
  by_cases hn:(flat ss).Nodup
  · rw [decide_eq_true hn,beq_iff_eq]
    have:=d2.mpr hn;omega
  · rw [decide_eq_false hn,beq_eq_false_iff_ne]
    have h2:(ddP (flat ss)).length≠(flat ss).length:=fun h=>hn (d2.mp h)
    omega
abbrev eA (d0:D) (ks:List Pt) (s2 s3:Slot):En:=[.F d0,.O (.T ks),s2,s3]
theorem ap1 (d0:D) (ks:List Pt) (s2:Slot) (p:Pt) (hk:ks.length<16000000):(p∈ks→B__law_apart_1 (eA d0 ks s2 (.F (cel p)))=some (.rt (.bl false)))∧(p∉ks→B__law_apart_1 (eA d0 ks s2 (.F (cel p)))=some (.nx (eA d0 (ks++[p]) s2 (.F (cel p))))):=by
  have g:fB (op2 (inQ false) (fun env=>getF env 3) (fun env=>getP env 1)) (eA d0 ks s2 (.F (cel p)))=some (decide (p∈ks)):=rfl
  constructor
  · intro h
    rw [decide_eq_true h] at g
    exact seqR_v ((ifT_v g).trans rfl)
  · intro h
    rw [decide_eq_false h] at g
    refine (seq_v ((ifE_v g).trans rfl)).trans ((putV_v (ks:=ks) (a:=p.1) (b:=p.2) rfl rfl hk).trans ?_)
    show some (Out.nx (eA d0 (putP ks (p.1,p.2)) s2 (.F (cel p))))=_
    rw [show putP ks (p.1,p.2)=ks++[p] by unfold putP;rw [if_neg h]]
theorem ap_in (d0:D) (s2:Slot):∀ (qs ks:List Pt) (s3:Slot),ks.Nodup→ks.length+qs.length≤10000→((ks++qs).Nodup→∃ s3',loopF (tgN 3) B__law_apart_1 (qs.map cel) (eA d0 ks s2 s3)=some (.nx (eA d0 (ks++qs) s2 s3')))∧(¬(ks++qs).Nodup→loopF (tgN 3) B__law_apart_1 (qs.map cel) (eA d0 ks s2 s3)=some (.rt (.bl false)))
  | [],ks,s3,hk,_=>⟨fun _=>⟨s3,by rw [List.append_nil];rfl⟩,fun h=>absurd (by rw [List.append_nil];exact hk) h⟩
  | q::qs,ks,s3,hk,hl=>by
    rw [List.length_cons] at hl
    obtain ⟨a1,a2⟩:=ap1 d0 ks s2 q (by omega)
    rw [List.map_cons]
    by_cases h:q∈ks
    · refine ⟨fun hn=>?_,fun _=>loop_rt (tg_v (e0:=eA d0 ks s2 (.F (cel q))) rfl (a1 h))⟩
      have:=(List.nodup_append.mp hn).2.2 q h q List.mem_cons_self
      exact absurd rfl this
    · rw [loop_nx (tg_v (e0:=eA d0 ks s2 (.F (cel q))) rfl (a2 h))]
      have hk':(ks++[q]).Nodup:=by
        rw [List.nodup_append]
        exact ⟨hk,by simp,fun a ha b hb e=>by rw [List.mem_singleton.mp hb] at e;rw [e] at ha;exact h ha⟩
      have ih:=ap_in d0 s2 qs (ks++[q]) (.F (cel q)) hk' (by rw [List.length_append,List.length_singleton];omega)
      rw [List.append_assoc] at ih
      exact ih
theorem ap_out (d0:D):∀ (ss:List Sh) (ks:List Pt) (s2 s3:Slot),(∀ s∈ss,s.n≤60)→ks.Nodup→ks.length+(flat ss).length≤10000→((ks++flat ss).Nodup→∃ s2' s3',loopF (tgN 2) (B__law_apart_2 m__law_cells) (ss.map Sh.d) (eA d0 ks s2 s3)=some (.nx (eA d0 (ks++flat ss) s2' s3')))∧(¬(ks++flat ss).Nodup→loopF (tgN 2) (B__law_apart_2 m__law_cells) (ss.map Sh.d) (eA d0 ks s2 s3)=some (.rt (.bl false)))
  | [],ks,s2,s3,_,hk,_=>⟨fun _=>⟨s2,s3,by rw [show flat []=[] from rfl,List.append_nil];rfl⟩,fun h=>absurd (by rw [show flat []=[] from rfl,List.append_nil];exact hk) h⟩
  | s::ss,ks,s2,s3,hn,hk,hl=>by
    rw [show flat (s::ss)=s.cs++flat ss from rfl,List.length_append] at hl
    have hcl:=cs_len s
    have hs:=hn s List.mem_cons_self
    obtain ⟨a1,a2⟩:=ap_in d0 (.F s.d) s.cs ks s3 hk (by omega)
    have hf:B__law_apart_2 m__law_cells (eA d0 ks (.F s.d) s3)=loopF (tgN 3) B__law_apart_1 (s.cs.map cel) (eA d0 ks (.F s.d) s3):=for_v (itL_v ((call_v rfl).trans (cells_ok s (by omega))))
    rw [List.map_cons,show flat (s::ss)=s.cs++flat ss from rfl,← List.append_assoc]
    by_cases h:(ks++s.cs).Nodup
    · obtain ⟨s3',b⟩:=a1 h
      rw [loop_nx (tg_v (e0:=eA d0 ks (.F s.d) s3) rfl (hf.trans b))]
      exact ap_out d0 ss (ks++s.cs) (.F s.d) s3' (fun x hx=>hn x (List.mem_cons_of_mem _ hx)) h (by rw [List.length_append];omega)
    · exact ⟨fun hh=>absurd (List.nodup_append.mp hh).1 h,fun _=>loop_rt (tg_v (e0:=eA d0 ks (.F s.d) s3) rfl (hf.trans (a2 h)))⟩
theorem apart_ok (ss:List Sh) (h:Shs ss):m__law_apart [.lst (ss.map Sh.d)]=some (.bl (decide (flat ss).Nodup)):=by
  obtain ⟨a1,a2⟩:=ap_out (.lst (ss.map Sh.d)) ss [] .un .un h.2 List.nodup_nil (by have:=h.1;simp only [List.length_nil];omega)
  have hf:forF (itL (fun env=>getF env 0)) (tgN 2) (B__law_apart_2 m__law_cells) (eA (.lst (ss.map Sh.d)) [] .un .un)=_:=for_v (itL_v (ds:=ss.map Sh.d) rfl)
  by_cases hn:(flat ss).Nodup
  · obtain ⟨s2,s3,b⟩:=a1 hn
    rw [decide_eq_true hn]
    exact run_v ((seq_v (setQ_v rfl)).trans ((seq_v (hf.trans b)).trans rfl))
  · rw [decide_eq_false hn]
    exact run_v ((seq_v (setQ_v rfl)).trans (seqR_v (hf.trans (a2 hn))))
end K22
namespace K22
open PySem Mi
def gl (R C l:Nat):Nat:=(R/l)*(C/l)*l+(R/l)*(C%l)+(C/l)*(R%l)+if l≤R∧l≤C then R%l+C%l-l else 0
theorem dm {n l:Nat} (hl:1≤l):n=l*(n/l)+n%l∧n%l<l:=⟨(Nat.div_add_mod n l).symm,Nat.mod_lt _ (by omega)⟩
theorem dv {n l q r:Nat} (h:n=l*q+r) (hr:r<l):n/l=q∧n%l=r:=by
  subst h
  have h0:0<l:=by omega
  refine ⟨?_,?_⟩
  · rw [Nat.mul_add_div h0,Nat.div_eq_of_lt hr,Nat.add_zero]
  · rw [Nat.mul_add_mod,Nat.mod_eq_of_lt hr]
theorem dv1 {n l:Nat} (hl:1≤l):(n%l=l-1→(n+1)/l=n/l+1∧(n+1)%l=0)∧(n%l≠l-1→(n+1)/l=n/l∧(n+1)%l=n%l+1):=by
  obtain ⟨h1,h2⟩:=dm (n:=n) hl
  refine ⟨fun h=>dv ?_ (by omega),fun h=>dv ?_ (by omega)⟩
  · rw [Nat.mul_succ];omega
  · omega
theorem dv2 {m n l:Nat} (hl:1≤l):(m+n)/l=m/l+n/l+if l≤m%l+n%l then 1 else 0:=by
  obtain ⟨h1,h2⟩:=dm (n:=m) hl
  obtain ⟨h3,h4⟩:=dm (n:=n) hl
  split
  · refine (dv (r:=m%l+n%l-l) ?_ (by omega)).1
    rw [Nat.mul_add,Nat.mul_add,Nat.mul_one];omega
  · refine (dv (r:=m%l+n%l) ?_ (by omega)).1
    rw [Nat.mul_add,Nat.mul_add,Nat.mul_zero];omega
def cnt (l x C:Nat):Nat:=((List.range C).filter fun c=>decide ((x+c)%l=l-1)).length
theorem cnt_is {l:Nat} (hl:1≤l) (x:Nat):∀ C,cnt l x C+x/l=(x+C)/l
  | 0=>by simp [cnt]
  | C+1=>by
    have ih:=cnt_is hl x C
    unfold cnt at ih ⊢
    rw [List.range_succ,List.filter_append,List.length_append]
    obtain ⟨g1,g2⟩:=dv1 (n:=x+C) hl
    rw [← Nat.add_assoc]
    by_cases h:(x+C)%l=l-1
    · rw [(g1 h).1,List.filter_cons,if_pos (by simpa using h)];simp;omega
    · rw [(g2 h).1,List.filter_cons,if_neg (by simpa using h)];simp;omega
def cellsN (dn al R C l:Nat):List Pt:=(List.range R).flatMap fun r=>((List.range C).filter fun c=>decide ((r*dn+c*al)%l=l-1)).map fun (c:Nat)=>((r:Int),(c:Int))
theorem cellsN_succ (dn al R C l:Nat):(cellsN dn al (R+1) C l).length=(cellsN dn al R C l).length+((List.range C).filter fun c=>decide ((R*dn+c*al)%l=l-1)).length:=by
  unfold cellsN
  rw [List.range_succ,List.flatMap_append,List.length_append]
  simp
theorem cnt11 {l C:Nat} (hl:1≤l):∀ R,(cellsN 1 1 R C l).length=(R/l)*(C/l)*l+(R/l)*(C%l)+(C/l)*(R%l)+(R%l+C%l-l)
  | 0=>by
    have:=(dm (n:=C) hl).2
    simp [cellsN];omega
  | R+1=>by
    rw [cellsN_succ,cnt11 hl R]
    simp only [Nat.mul_one]
    have h:=cnt_is hl R C
    unfold cnt at h
    rw [dv2 hl] at h
    obtain ⟨g1,g2⟩:=dv1 (n:=R) hl
    obtain ⟨w1,w2⟩:=dm (n:=C) hl
    obtain ⟨w3,w4⟩:=dm (n:=R) hl
    by_cases e:R%l=l-1
    · rw [(g1 e).1,(g1 e).2,e] at *
      obtain ⟨k,rfl⟩:∃ k,l=k+1:=⟨l-1,by omega⟩
      simp only [Nat.add_sub_cancel,Nat.mul_zero,Nat.add_mul,Nat.one_mul,Nat.mul_add,Nat.mul_one] at *
      split at h<;>omega
    · rw [(g2 e).1,(g2 e).2]
      rw [Nat.mul_add,Nat.mul_one]
      split at h<;>omega
theorem cnt10 {l C:Nat} (hl:1≤l):∀ R,(cellsN 1 0 R C l).length=(R/l)*C
  | 0=>by simp [cellsN]
  | R+1=>by
    rw [cellsN_succ,cnt10 hl R]
    simp only [Nat.mul_one,Nat.mul_zero,Nat.add_zero]
    obtain ⟨g1,g2⟩:=dv1 (n:=R) hl
    by_cases e:R%l=l-1
    · rw [(g1 e).1,Nat.add_mul,Nat.one_mul,List.filter_eq_self.mpr (fun c _=>decide_eq_true e),List.length_range]
    · rw [(g2 e).1,List.filter_eq_nil_iff.mpr (fun c _=>by simpa using e),List.length_nil,Nat.add_zero]
theorem cnt01 {l C:Nat} (hl:1≤l):∀ R,(cellsN 0 1 R C l).length=R*(C/l)
  | 0=>by simp [cellsN]
  | R+1=>by
    rw [cellsN_succ,cnt01 hl R,Nat.add_mul,Nat.one_mul]
    have h:=cnt_is hl 0 C
    unfold cnt at h
    simp only [Nat.mul_zero,Nat.mul_one,Nat.zero_add,Nat.zero_div,Nat.add_zero] at h ⊢
    rw [h]
theorem cnt00 {l C:Nat} (hl:2≤l):∀ R,(cellsN 0 0 R C l).length=0
  | 0=>by simp [cellsN]
  | R+1=>by
    rw [cellsN_succ,cnt00 hl R]
    rw [Nat.zero_add,List.length_eq_zero_iff,List.filter_eq_nil_iff]
    intro c _ h
    have h':=of_decide_eq_true h
    rw [Nat.mul_zero,Nat.mul_zero,Nat.add_zero,Nat.zero_mod] at h'
    omega
abbrev on (R l:Nat):Nat:=if l≤R then 1 else 0
def netL (R C l:Nat):List Pt:=cellsN (on R l) (on C l) R C l
theorem netL_len {R C l:Nat} (hl:1≤l) (hR:1≤R) (hC:1≤C):(netL R C l).length=gl R C l:=by
  unfold netL gl on
  by_cases h1:l≤R
  · by_cases h2:l≤C
    · rw [if_pos h1,if_pos h2,if_pos ⟨h1,h2⟩,cnt11 hl]
    · rw [if_pos h1,if_neg h2,if_neg (by omega),cnt10 hl,Nat.div_eq_of_lt (by omega:C<l),Nat.mod_eq_of_lt (by omega:C<l)];simp
  · by_cases h2:l≤C
    · rw [if_neg h1,if_pos h2,if_neg (by omega),cnt01 hl,Nat.div_eq_of_lt (by omega:R<l),Nat.mod_eq_of_lt (by omega:R<l)]
      simp [Nat.mul_comm]
    · rw [if_neg h1,if_neg h2,if_neg (by omega),cnt00 (by omega),Nat.div_eq_of_lt (by omega:R<l),Nat.div_eq_of_lt (by omega:C<l)];simp
def ringI (r c l:Int):Bool:=decide (l≤if c<r then c else r)&&decide (l<r%l+c%l)
def lnI (r c l:Int):Int:=if ringI r c l=true then (r*c-(l-r%l)*(l-c%l))/l else (r*c-(r%l)*(c%l))/l
theorem ring_iff (R C l:Nat):ringI R C l=true↔l≤R∧l≤C∧l<R%l+C%l:=by
  unfold ringI
  rw [Bool.and_eq_true,decide_eq_true_eq,decide_eq_true_eq,← Int.natCast_emod,← Int.natCast_emod]
  split<;>omega
theorem lnI_is {R C l:Nat} (hl:1≤l):lnI R C l=(gl R C l:Nat):=by
  obtain ⟨h1,h2⟩:=dm (n:=R) hl
  obtain ⟨h3,h4⟩:=dm (n:=C) hl
  have hr:=ring_iff R C l
  unfold lnI gl
  rw [← Int.natCast_emod,← Int.natCast_emod]
  generalize R/l=a at *
  generalize R%l=x at *
  generalize C/l=b at *
  generalize C%l=y at *
  by_cases hg:ringI R C l=true
  · obtain ⟨q1,q2,q3⟩:=hr.mp hg
    rw [if_pos hg,if_pos ⟨q1,q2⟩]
    have e:(R:Int)*C-((l:Int)-x)*(l-y)=(l:Int)*(((a*b*l+a*y+b*x+(x+y-l):Nat)):Int):=by
      rw [h1,h3]
      have:((x+y-l:Nat):Int)=(x:Int)+y-l:=by omega
      push_cast [this]
      grind
    rw [e,Int.mul_ediv_cancel_left _ (by omega)]
  · rw [if_neg hg]
    have z:(if l≤R∧l≤C then x+y-l else 0)=0:=by
      split
      · rename_i q;have:¬ l<x+y:=fun q3=>hg (hr.mpr ⟨q.1,q.2,q3⟩);omega
      · rfl
    rw [z]
    have e:(R:Int)*C-(x:Int)*y=(l:Int)*(((a*b*l+a*y+b*x+0:Nat)):Int):=by
      rw [h1,h3]
      push_cast
      grind
    rw [e,Int.mul_ediv_cancel_left _ (by omega)]
end K22
namespace K22
open PySem Mi
def lotA (t f:Int) (h w l:Nat):List Sh:=(List.range h).flatMap fun r=>(List.range (w/l)).map fun q=>⟨t+(r:Nat),f+(q:Nat)*(l:Nat),false,l⟩
def lotD (t f:Int) (h w l:Nat):List Sh:=(List.range (h/l)).flatMap fun q=>(List.range w).map fun c=>⟨t+(q:Nat)*(l:Nat),f+(c:Nat),true,l⟩
theorem nd_flat {α β:Type} (φ:β→α) {g:α→List β}:∀ {xs:List α},xs.Nodup→(∀ x∈xs,(g x).Nodup)→(∀ x∈xs,∀ y∈g x,φ y=x)→(xs.flatMap g).Nodup
  | [],_,_,_=>List.nodup_nil
  | x::xs,hn,h1,h2=>by
    rw [List.flatMap_cons]
    rw [List.nodup_cons] at hn
    refine List.nodup_append.mpr ⟨h1 x (List.mem_cons_self ..),nd_flat φ hn.2 (fun y hy=>h1 y (List.mem_cons_of_mem _ hy)) (fun y hy=>h2 y (List.mem_cons_of_mem _ hy)),fun y hy z hz e=>?_⟩
    subst e
    obtain ⟨x',hx',hz⟩:=List.mem_flatMap.mp hz
    have e1:=h2 x (List.mem_cons_self ..) y hy
    have e2:=h2 x' (List.mem_cons_of_mem _ hx') y hz
    rw [e1] at e2;subst e2
    exact hn.1 hx'
theorem mem_cs {s:Sh} {p:Pt}:p∈s.cs↔∃ k:Nat,k<s.n∧p=s.at k:=by
  unfold Sh.cs
  rw [List.mem_map]
  constructor
  · rintro ⟨k,hk,rfl⟩;exact ⟨k,List.mem_range.mp hk,rfl⟩
  · rintro ⟨k,hk,rfl⟩;exact ⟨k,List.mem_range.mpr hk,rfl⟩
theorem cs_nodup (s:Sh):s.cs.Nodup:=by
  unfold Sh.cs
  refine List.pairwise_map.mpr (List.nodup_range.imp fun {i j} h e=>h ?_)
  unfold Sh.at at e
  split at e
  · have:=congrArg Prod.fst e;simp at this;omega
  · have:=congrArg Prod.snd e;simp at this;omega
theorem flat_lotA (t f:Int) (h w l:Nat):flat (lotA t f h w l)=(List.range h).flatMap fun r=>(List.range (w/l)).flatMap fun q=>(⟨t+(r:Nat),f+(q:Nat)*(l:Nat),false,l⟩:Sh).cs:=by
  unfold flat lotA
  rw [List.flatMap_assoc]
  congr 1;funext r
  rw [List.flatMap_map]
theorem flat_lotD (t f:Int) (h w l:Nat):flat (lotD t f h w l)=(List.range (h/l)).flatMap fun q=>(List.range w).flatMap fun c=>(⟨t+(q:Nat)*(l:Nat),f+(c:Nat),true,l⟩:Sh).cs:=by
  unfold flat lotD
  rw [List.flatMap_assoc]
  congr 1;funext r
  rw [List.flatMap_map]
theorem lotA_nodup (t f:Int) (h w:Nat) {l:Nat} (hl:1≤l):(flat (lotA t f h w l)).Nodup:=by
  rw [flat_lotA]
  refine nd_flat (fun p=>(p.1-t).toNat) List.nodup_range (fun r _=>nd_flat (fun p=>(p.2-f).toNat/l) List.nodup_range (fun q _=>cs_nodup _) fun q _ p hp=>?_) fun r _ p hp=>?_
  · obtain ⟨k,hk,rfl⟩:=mem_cs.mp hp
    show (f+(q:Nat)*(l:Nat)+(k:Nat)-f).toNat/l=q
    rw [show (f+(q:Nat)*(l:Nat)+(k:Nat)-f).toNat=l*q+k by rw [Nat.mul_comm];push_cast;omega]
    exact (dv rfl hk).1
  · obtain ⟨q,_,hp⟩:=List.mem_flatMap.mp hp
    obtain ⟨k,hk,rfl⟩:=mem_cs.mp hp
    show (t+(r:Nat)-t).toNat=r
    omega
theorem lotD_nodup (t f:Int) (h w:Nat) {l:Nat} (hl:1≤l):(flat (lotD t f h w l)).Nodup:=by
  rw [flat_lotD]
  refine nd_flat (fun p=>(p.1-t).toNat/l) List.nodup_range (fun q _=>nd_flat (fun p=>(p.2-f).toNat) List.nodup_range (fun c _=>cs_nodup _) fun c _ p hp=>?_) fun q _ p hp=>?_
  · obtain ⟨k,hk,rfl⟩:=mem_cs.mp hp
    show (f+(c:Nat)-f).toNat=c
    omega
  · obtain ⟨c,_,hp⟩:=List.mem_flatMap.mp hp
    obtain ⟨k,hk,rfl⟩:=mem_cs.mp hp
    show (t+(q:Nat)*(l:Nat)+(k:Nat)-t).toNat/l=q
    rw [show (t+(q:Nat)*(l:Nat)+(k:Nat)-t).toNat=l*q+k by rw [Nat.mul_comm];push_cast;omega]
    exact (dv rfl hk).1
def Bx (t f:Int) (h w:Nat) (p:Pt):Prop:=t≤p.1∧p.1<t+h∧f≤p.2∧p.2<f+w
theorem step_lt {q k w l:Nat} (hl:1≤l) (hq:q<w/l) (hk:k<l):q*l+k<w:=by
  have:=(Nat.le_div_iff_mul_le (by omega:0<l)).mp (show q+1≤w/l by omega)
  rw [Nat.add_mul] at this
  omega
theorem lotA_in {t f:Int} {h w l:Nat} (hl:1≤l) {p:Pt} (hp:p∈flat (lotA t f h w l)):Bx t f h w p:=by
  rw [flat_lotA] at hp
  obtain ⟨r,hr,hp⟩:=List.mem_flatMap.mp hp
  obtain ⟨q,hq,hp⟩:=List.mem_flatMap.mp hp
  obtain ⟨k,hk,rfl⟩:=mem_cs.mp hp
  have hr:=List.mem_range.mp hr
  have:=step_lt hl (List.mem_range.mp hq) hk
  show t≤t+(r:Nat)∧t+(r:Nat)<t+h∧f≤f+(q:Nat)*(l:Nat)+(k:Nat)∧f+(q:Nat)*(l:Nat)+(k:Nat)<f+w
  have e:(q:Int)*(l:Int)=((q*l:Nat):Int):=by push_cast;rfl
  rw [e]
  omega
theorem lotD_in {t f:Int} {h w l:Nat} (hl:1≤l) {p:Pt} (hp:p∈flat (lotD t f h w l)):Bx t f h w p:=by
  rw [flat_lotD] at hp
  obtain ⟨q,hq,hp⟩:=List.mem_flatMap.mp hp
  obtain ⟨c,hc,hp⟩:=List.mem_flatMap.mp hp
  obtain ⟨k,hk,rfl⟩:=mem_cs.mp hp
  have hc:=List.mem_range.mp hc
  have:=step_lt hl (List.mem_range.mp hq) hk
  show t≤t+(q:Nat)*(l:Nat)+(k:Nat)∧t+(q:Nat)*(l:Nat)+(k:Nat)<t+h∧f≤f+(c:Nat)∧f+(c:Nat)<f+w
  have e:(q:Int)*(l:Int)=((q*l:Nat):Int):=by push_cast;rfl
  rw [e]
  omega
theorem flat_app (xs ys:List Sh):flat (xs++ys)=flat xs++flat ys:=List.flatMap_append
theorem sum_const {α β:Type} {g:α→List β} {m:Nat}:∀ (xs:List α),(∀ x∈xs,(g x).length=m)→(xs.flatMap g).length=xs.length*m
  | [],_=>by simp
  | x::xs,h=>by
    rw [List.flatMap_cons,List.length_append,h x (List.mem_cons_self ..),sum_const xs fun y hy=>h y (List.mem_cons_of_mem _ hy),List.length_cons,Nat.add_mul]
    omega
theorem lotA_len (t f:Int) (h w l:Nat):(lotA t f h w l).length=h*(w/l):=by
  unfold lotA
  rw [sum_const (m:=w/l) _ fun x _=>by simp,List.length_range]
theorem lotD_len (t f:Int) (h w l:Nat):(lotD t f h w l).length=h/l*w:=by
  unfold lotD
  rw [sum_const (m:=w) _ fun x _=>by simp,List.length_range]
def shipsL (R C l:Nat):List Sh:=
  if ringI R C l=true then
    ((((lotD 0 0 (R-l-R%l) C l++lotA (R-l-R%l:Nat) 0 (l+R%l) (C-l-C%l) l)++lotA (R-l-R%l:Nat) (C-l-C%l:Nat) (R%l) l l)++lotD (R-l-R%l:Nat) ((C-l-C%l:Nat)+(l:Nat)) l (C%l) l)
      ++ lotA ((R-l-R%l:Nat)+(l:Nat)) ((C-l-C%l:Nat)+(C%l:Nat)) (R%l) l l)++lotD ((R-l-R%l:Nat)+(R%l:Nat)) (C-l-C%l:Nat) l (C%l) l
  else lotA 0 0 R (C-C%l) l++lotD 0 (C-C%l:Nat) R (C%l) l
theorem ap_nd {xs ys:List Sh} (h1:(flat xs).Nodup) (h2:(flat ys).Nodup) (h:∀ p∈flat xs,p∉flat ys):(flat (xs++ys)).Nodup:=by
  rw [flat_app]
  exact List.nodup_append.mpr ⟨h1,h2,fun a ha b hb e=>by subst e;exact h a ha hb⟩
theorem mem_fapp {xs ys:List Sh} {p:Pt} (h:p∈flat (xs++ys)):p∈flat xs∨p∈flat ys:=by rw [flat_app] at h;exact List.mem_append.mp h
theorem ships_apart {R C l:Nat} (hl:1≤l):(flat (shipsL R C l)).Nodup∧∀ p∈flat (shipsL R C l),Bx 0 0 R C p:=by
  obtain ⟨h1,h2⟩:=dm (n:=R) hl
  obtain ⟨h3,h4⟩:=dm (n:=C) hl
  unfold shipsL
  by_cases hg:ringI R C l=true
  · obtain ⟨q1,q2,q3⟩:=(ring_iff R C l).mp hg
    rw [if_pos hg]
    have g1:l+R%l≤R:=by
      have:1≤R/l:=(Nat.le_div_iff_mul_le (by omega)).mpr (by omega)
      have:l*1≤l*(R/l):=Nat.mul_le_mul_left l this
      omega
    have g2:l+C%l≤C:=by
      have:1≤C/l:=(Nat.le_div_iff_mul_le (by omega)).mpr (by omega)
      have:l*1≤l*(C/l):=Nat.mul_le_mul_left l this
      omega
    clear h1 h3 hg q1 q2 q3
    obtain ⟨T,hT⟩:∃ T,T=R-l-R%l:=⟨_,rfl⟩
    obtain ⟨U,hU⟩:∃ U,U=C-l-C%l:=⟨_,rfl⟩
    rw [← hT,← hU]
    generalize R%l=x at *
    generalize C%l=y at *
    constructor
    · refine ap_nd (ap_nd (ap_nd (ap_nd (ap_nd (lotD_nodup _ _ _ _ hl) (lotA_nodup _ _ _ _ hl) ?_) (lotA_nodup _ _ _ _ hl) ?_) (lotD_nodup _ _ _ _ hl) ?_) (lotA_nodup _ _ _ _ hl) ?_) (lotD_nodup _ _ _ _ hl) ?_
      · intro p a b
        have:=lotD_in hl a
        have:=lotA_in hl b
        unfold Bx at *;omega
      · intro p a b
        have b:=lotA_in hl b
        rcases mem_fapp a with a | a
        · have a:=lotD_in hl a;unfold Bx at *;omega
        · have a:=lotA_in hl a;unfold Bx at *;omega
      · intro p a b
        have b:=lotD_in hl b
        rcases mem_fapp a with a | a
        · rcases mem_fapp a with a | a
          · have a:=lotD_in hl a;unfold Bx at *;omega
          · have a:=lotA_in hl a;unfold Bx at *;omega
        · have a:=lotA_in hl a;unfold Bx at *;omega
      · intro p a b
        have b:=lotA_in hl b
        rcases mem_fapp a with a | a
        · rcases mem_fapp a with a | a
          · rcases mem_fapp a with a | a
            · have a:=lotD_in hl a;unfold Bx at *;omega
            · have a:=lotA_in hl a;unfold Bx at *;omega
          · have a:=lotA_in hl a;unfold Bx at *;omega
        · have a:=lotD_in hl a;unfold Bx at *;omega
      · intro p a b
        have b:=lotD_in hl b
        rcases mem_fapp a with a | a
        · rcases mem_fapp a with a | a
          · rcases mem_fapp a with a | a
            · rcases mem_fapp a with a | a
              · have a:=lotD_in hl a;unfold Bx at *;omega
              · have a:=lotA_in hl a;unfold Bx at *;omega
            · have a:=lotA_in hl a;unfold Bx at *;omega
          · have a:=lotD_in hl a;unfold Bx at *;omega
        · have a:=lotA_in hl a;unfold Bx at *;omega
    · intro p a
      rcases mem_fapp a with a | a
      · rcases mem_fapp a with a | a
        · rcases mem_fapp a with a | a
          · rcases mem_fapp a with a | a
            · rcases mem_fapp a with a | a
              · have a:=lotD_in hl a;unfold Bx at *;omega
              · have a:=lotA_in hl a;unfold Bx at *;omega
            · have a:=lotA_in hl a;unfold Bx at *;omega
          · have a:=lotD_in hl a;unfold Bx at *;omega
        · have a:=lotA_in hl a;unfold Bx at *;omega
      · have a:=lotD_in hl a;unfold Bx at *;omega
  · rw [if_neg hg]
    have g:C%l≤C:=Nat.mod_le _ _
    generalize C%l=y at *
    refine ⟨ap_nd (lotA_nodup _ _ _ _ hl) (lotD_nodup _ _ _ _ hl) fun p a b=>?_,fun p a=>?_⟩
    · have a:=lotA_in hl a
      have b:=lotD_in hl b
      unfold Bx at *;omega
    · rcases mem_fapp a with a | a
      · have a:=lotA_in hl a;unfold Bx at *;omega
      · have a:=lotD_in hl a;unfold Bx at *;omega
theorem lot_n {t f:Int} {h w l:Nat}:(∀ s∈lotA t f h w l,s.n=l∧s.dn=false)∧∀ s∈lotD t f h w l,s.n=l∧s.dn=true:=by
  refine ⟨fun s hs=>?_,fun s hs=>?_⟩
  · obtain ⟨r,_,hs⟩:=List.mem_flatMap.mp hs
    obtain ⟨q,_,rfl⟩:=List.mem_map.mp hs
    exact ⟨rfl,rfl⟩
  · obtain ⟨r,_,hs⟩:=List.mem_flatMap.mp hs
    obtain ⟨q,_,rfl⟩:=List.mem_map.mp hs
    exact ⟨rfl,rfl⟩
theorem lotD0 (t f:Int) (h l:Nat):lotD t f h 0 l=[]:=by
  unfold lotD
  simp
theorem ships_n {R C l:Nat} (hl:1≤l) {s:Sh} (hs:s∈shipsL R C l):s.n=l∧(l=1→s.dn=false):=by
  unfold shipsL at hs
  by_cases hg:ringI R C l=true
  · obtain ⟨q1,q2,q3⟩:=(ring_iff R C l).mp hg
    have h2:=(dm (n:=R) hl).2
    have h4:=(dm (n:=C) hl).2
    have h1:l≠1:=by omega
    rw [if_pos hg] at hs
    simp only [List.mem_append] at hs
    refine ⟨?_,fun z=>absurd z h1⟩
    rcases hs with ((((hs | hs) | hs) | hs) | hs) | hs
    · exact (lot_n.2 s hs).1
    · exact (lot_n.1 s hs).1
    · exact (lot_n.1 s hs).1
    · exact (lot_n.2 s hs).1
    · exact (lot_n.1 s hs).1
    · exact (lot_n.2 s hs).1
  · rw [if_neg hg] at hs
    rcases List.mem_append.mp hs with hs | hs
    · exact ⟨(lot_n.1 s hs).1,fun _=>(lot_n.1 s hs).2⟩
    · refine ⟨(lot_n.2 s hs).1,fun z=>?_⟩
      subst z
      rw [Nat.mod_one,lotD0] at hs
      cases hs
theorem ships_len {R C l:Nat} (hl:1≤l):(shipsL R C l).length=gl R C l:=by
  obtain ⟨h1,h2⟩:=dm (n:=R) hl
  obtain ⟨h3,h4⟩:=dm (n:=C) hl
  have hr:=ring_iff R C l
  unfold shipsL gl
  by_cases hg:ringI R C l=true
  · obtain ⟨q1,q2,q3⟩:=hr.mp hg
    rw [if_pos hg,if_pos ⟨q1,q2⟩]
    simp only [List.length_append,lotA_len,lotD_len]
    obtain ⟨a,ha⟩:∃ a,R/l=a+1:=⟨R/l-1,by have:1≤R/l:=(Nat.le_div_iff_mul_le (by omega)).mpr (by omega);omega⟩
    obtain ⟨b,hb⟩:∃ b,C/l=b+1:=⟨C/l-1,by have:1≤C/l:=(Nat.le_div_iff_mul_le (by omega)).mpr (by omega);omega⟩
    rw [ha] at h1 ⊢
    rw [hb] at h3 ⊢
    rw [Nat.mul_add,Nat.mul_one] at h1 h3
    have e1:R-l-R%l=l*a:=by omega
    have e2:C-l-C%l=l*b:=by omega
    rw [e1,e2,Nat.mul_div_cancel_left _ (by omega),Nat.mul_div_cancel_left _ (by omega),Nat.div_self (by omega)]
    clear e1 e2 ha hb hr hg q1 q2
    generalize R%l=x at *
    generalize C%l=y at *
    obtain ⟨z,hz⟩:∃ z,x+y=l+z:=⟨x+y-l,by omega⟩
    rw [show x+y-l=z by omega,h3]
    clear h1 h3
    grind
  · rw [if_neg hg]
    have z:(if l≤R∧l≤C then R%l+C%l-l else 0)=0:=by
      split
      · rename_i q;have:¬ l<R%l+C%l:=fun q3=>hg (hr.mpr ⟨q.1,q.2,q3⟩);omega
      · rfl
    rw [z,List.length_append,lotA_len,lotD_len]
    have e:C-C%l=l*(C/l):=by omega
    rw [e,Nat.mul_div_cancel_left _ (by omega)]
    generalize C%l=y at *
    generalize C/l=b at *
    generalize R%l=x at *
    generalize R/l=a at *
    rw [h1]
    clear h1 h3 e z hg hr
    grind
theorem gl_le {R C l:Nat} (hl:1≤l):l*gl R C l≤R*C:=by
  obtain ⟨h1,h2⟩:=dm (n:=R) hl
  obtain ⟨h3,h4⟩:=dm (n:=C) hl
  unfold gl
  have z:(if l≤R∧l≤C then R%l+C%l-l else 0)≤R%l+C%l-l:=by split<;>omega
  generalize (if l≤R∧l≤C then R%l+C%l-l else 0)=u at *
  generalize C%l=y at *
  generalize C/l=b at *
  generalize R%l=x at *
  generalize R/l=a at *
  have k:l*u≤x*y:=by
    rcases Nat.eq_zero_or_pos u with rfl | hu
    · simp
    · obtain ⟨i,rfl⟩:∃ i,l=x+i:=⟨l-x,by omega⟩
      obtain ⟨j,hj⟩:∃ j,x+i=y+j:=⟨x+i-y,by omega⟩
      have hu2:u≤x-j:=by omega
      have:(x+i)*u≤(x+i)*(x-j):=Nat.mul_le_mul_left _ hu2
      refine Nat.le_trans this ?_
      obtain ⟨v,rfl⟩:∃ v,x=v+j:=⟨x-j,by omega⟩
      rw [show v+j-j=v by omega,show y=v+i by omega,Nat.add_mul (v+j) i v,Nat.mul_add]
      have:i*v≤(v+j)*i:=by rw [Nat.mul_comm i v,Nat.add_mul];omega
      omega
  have e:R*C=l*(a*b*l+a*y+b*x)+x*y:=by rw [h1,h3];grind
  rw [Nat.mul_add,e]
  omega
theorem flat_lenN {ss:List Sh} {l:Nat} (h:∀ s∈ss,s.n=l):(flat ss).length=ss.length*l:=sum_const ss fun s hs=>by rw [cs_len,h s hs]
end K22
namespace K22
open PySem Mi
def Sh.ks (s:Sh):List L2.Key:=[.inl s.a,.inl s.b,.inr s.w,.inl s.n]
def Bef (s t:Sh):Prop:=s.a<t.a∨(s.a=t.a∧(s.b<t.b∨(s.b=t.b∧((s.dn=false∧t.dn=true)∨(s.dn=t.dn∧s.n<t.n)))))
theorem ltAD:ltK (.inr sAl) (.inr sDn)=some true:=by
  show some (decide (sAl.cps.toList<sDn.cps.toList))=_
  rw [show decide (sAl.cps.toList<sDn.cps.toList)=true by decide +kernel]
theorem ltDA:ltK (.inr sDn) (.inr sAl)=some false:=by
  show some (decide (sDn.cps.toList<sAl.cps.toList))=_
  rw [show decide (sDn.cps.toList<sAl.cps.toList)=false by decide +kernel]
theorem sAD:(Sum.inr sAl:L2.Key)≠.inr sDn:=fun h=>absurd (Sum.inr.inj h) (by decide)
theorem lex_c (x y:L2.Key) (xs ys:List L2.Key):lexK (x::xs) (y::ys)=if x=y then lexK xs ys else ltK x y:=rfl
theorem lex_tail (n n':Nat):lexK [.inl (n:Int)] [.inl (n':Int)]=some (decide (n<n')):=by
  rw [lex_c]
  by_cases h3:n=n'
  · subst h3;rw [if_pos rfl];simp [lexK]
  · rw [if_neg (fun z=>h3 (by have:=Sum.inl.inj z;omega))]
    show some (decide ((n:Int)<n'))=_
    simp
theorem lex_two (a b a' b':Int) (xs ys:List L2.Key) (q:Bool) (h:lexK xs ys=some q):∃ r,lexK (.inl a::.inl b::xs) (.inl a'::.inl b'::ys)=some r∧(r=true↔a<a'∨(a=a'∧(b<b'∨(b=b'∧q=true)))):=by
  rw [lex_c]
  by_cases h1:a=a'
  · subst h1
    rw [if_pos rfl,lex_c]
    by_cases h2:b=b'
    · subst h2
      rw [if_pos rfl]
      exact ⟨q,h,by simp⟩
    · rw [if_neg (fun z=>h2 (Sum.inl.inj z))]
      refine ⟨decide (b<b'),rfl,?_⟩
      rw [decide_eq_true_eq]
      constructor
      · intro h;exact .inr ⟨rfl,.inl h⟩
      · rintro (h | ⟨_,h | ⟨h,_⟩⟩)
        · omega
        · exact h
        · exact absurd h h2
  · rw [if_neg (fun z=>h1 (Sum.inl.inj z))]
    refine ⟨decide (a<a'),rfl,?_⟩
    rw [decide_eq_true_eq]
    constructor
    · intro h;exact .inl h
    · rintro (h | ⟨h,_⟩)
      · exact h
      · exact absurd h h1
theorem lex_w (x y:Bool) (n n':Nat):∃ q,lexK [.inr (if x=true then sDn else sAl),.inl (n:Int)] [.inr (if y=true then sDn else sAl),.inl (n':Int)]=some q∧(q=true↔(x=false∧y=true)∨(x=y∧n<n')):=by
  cases x<;>cases y
  · exact ⟨decide (n<n'),(by rw [lex_c,if_pos rfl,lex_tail]),by simp⟩
  · exact ⟨true,(by show lexK [.inr sAl,_] [.inr sDn,_]=_;rw [lex_c,if_neg sAD];exact ltAD),by simp⟩
  · exact ⟨false,(by show lexK [.inr sDn,_] [.inr sAl,_]=_;rw [lex_c,if_neg (Ne.symm sAD)];exact ltDA),by simp⟩
  · exact ⟨decide (n<n'),(by rw [lex_c,if_pos rfl,lex_tail]),by simp⟩
theorem lex_sh (s t:Sh):∃ q,lexK s.ks t.ks=some q∧(q=true↔Bef s t):=by
  obtain ⟨q,h1,h2⟩:=lex_w s.dn t.dn s.n t.n
  obtain ⟨r,h3,h4⟩:=lex_two s.a s.b t.a t.b _ _ q h1
  exact ⟨r,h3,by rw [h4,h2];rfl⟩
theorem lex_no {s t:Sh} (h:¬ Bef s t):lexK s.ks t.ks=some false:=by
  obtain ⟨q,h1,h2⟩:=lex_sh s t
  cases q
  · exact h1
  · exact absurd (h2.mp rfl) h
theorem bef_asymm {s t:Sh} (h:Bef s t):¬ Bef t s:=by
  obtain ⟨a,b,dn,n⟩:=s
  obtain ⟨a',b',dn',n'⟩:=t
  unfold Bef at *
  simp only at *
  intro h'
  cases dn<;>cases dn'<;>simp at h h'<;>omega
theorem rises_of:∀ {l:List (List L2.Key)},l.Pairwise (fun a b=>lexK b a=some false)→risesK l=true
  | [],_=>rfl
  | [a],_=>rfl
  | a::b::r,h=>by
    obtain ⟨h1,h2⟩:=List.pairwise_cons.mp h
    unfold risesK
    rw [Bool.and_eq_true,decide_eq_true_eq]
    exact ⟨h1 b List.mem_cons_self,rises_of h2⟩
theorem unKeys_sh:∀ (ss:List Sh),unKeys (ss.map Sh.d)=some (ss.map Sh.ks)
  | []=>rfl
  | s::ss=>by
    show (unKey [.int s.a,.int s.b,.str s.w,.int s.n]).bind (fun ks=>(unKeys (ss.map Sh.d)).bind fun kss=>some (ks::kss))=_
    rw [unKeys_sh ss];rfl
theorem sortU_sh {f:Fe} {env:En} {ss:List Sh} (h:f env=some (.lst (ss.map Sh.d))) (hs:ss.Pairwise Bef):un1 sortU f env=some (.lst (ss.map Sh.d)):=by
  rw [un1_v h]
  show (unKeys (ss.map Sh.d)).bind _=_
  rw [unKeys_sh]
  show (if ((ss.map Sh.ks).all headI&&risesK (ss.map Sh.ks))=true then _ else _)=_
  rw [if_pos]
  rw [Bool.and_eq_true]
  refine ⟨List.all_eq_true.mpr fun k hk=>?_,rises_of (List.pairwise_map.mpr (hs.imp fun {s t} hb=>?_))⟩
  · obtain ⟨s,_,rfl⟩:=List.mem_map.mp hk;rfl
  · exact lex_no (bef_asymm hb)
def celK (p:Int×Int):List L2.Key:=[.inl p.1,.inl p.2]
theorem unKeys_cel:∀ (ps:List (Int×Int)),unKeys (ps.map cel)=some (ps.map celK)
  | []=>rfl
  | p::ps=>by
    show (unKey [.int p.1,.int p.2]).bind (fun ks=>(unKeys (ps.map cel)).bind fun kss=>some (ks::kss))=_
    rw [unKeys_cel ps];rfl
theorem sortU_cel {f:Fe} {env:En} {ps:List (Int×Int)} (h:f env=some (.lst (ps.map cel))) (hs:ps.Pairwise fun p q=>p.1<q.1∨(p.1=q.1∧p.2<q.2)):un1 sortU f env=some (.lst (ps.map cel)):=by
  rw [un1_v h]
  show (unKeys (ps.map cel)).bind _=_
  rw [unKeys_cel]
  show (if ((ps.map celK).all headI&&risesK (ps.map celK))=true then _ else _)=_
  rw [if_pos]
  rw [Bool.and_eq_true]
  refine ⟨List.all_eq_true.mpr fun k hk=>?_,rises_of (List.pairwise_map.mpr (hs.imp fun {p q} hb=>?_))⟩
  · obtain ⟨s,_,rfl⟩:=List.mem_map.mp hk;rfl
  · unfold celK
    rw [lex_c]
    rcases hb with hb | ⟨e,hb⟩
    · rw [if_neg (fun z=>by have:=Sum.inl.inj z;omega)]
      show some (decide _)=_
      rw [decide_eq_false (by omega)]
    · rw [if_pos (by rw [e]),lex_c,if_neg (fun z=>by have:=Sum.inl.inj z;omega)]
      show some (decide _)=_
      rw [decide_eq_false (by omega)]
theorem ring_ok (r c l:Int) (hl:0<l):m_needs_ring [.int r,.int c,.int l]=some (.bl (ringI r c l)):=by
  refine run_v (ret_v ?_)
  have h1:op2 leI (fun env=>getF env 2) (op2 minI (fun env=>getF env 0) (fun env=>getF env 1)) (startE 3 [.int r,.int c,.int l])=some (.bl (decide (l≤if c<r then c else r))):=rfl
  have h2:op2 gtI (op2 addI (op2 modI (fun env=>getF env 0) (fun env=>getF env 2)) (op2 modI (fun env=>getF env 1) (fun env=>getF env 2))) (fun env=>getF env 2) (startE 3 [.int r,.int c,.int l])=some (.bl (decide (l<r%l+c%l))):=
    (op2_v ((op2_v ((op2_v rfl rfl).trans (mod_in hl)) ((op2_v rfl rfl).trans (mod_in hl))).trans (add_v _ _)) rfl).trans (gt_v _ _)
  unfold andF ringI
  rw [h1]
  show (match D.bl (decide (l≤if c<r then c else r)) with | .bl true=>_ | .bl false=>some (D.bl false) | _=>none)=_
  cases decide (l≤if c<r then c else r) with
  | true=>exact h2
  | false=>rfl
theorem net_ok (r c l:Int) (hl:0<l) (hl2:l≤1000) (hr:0≤r) (hr2:r≤1000) (hc:0≤c) (hc2:c≤1000):m_least_net [.int r,.int c,.int l]=some (.int (lnI r c l)):=by
  have a:=mod_lo (a:=r) hl
  have b:=mod_lo (a:=c) hl
  have hg:=ring_ok r c l hl
  have fin:∀ x y:Int,-1000≤x→x≤1000→-1000≤y→y≤1000→retF (op2 fdivI (op2 subI (op2 mulI (fun env=>getF env 0) (fun env=>getF env 1)) (op2 mulI (fun env=>getF env 3) (fun env=>getF env 4))) (fun env=>getF env 2)) [.F (.int r),.F (.int c),.F (.int l),.F (.int x),.F (.int y)]=some (.rt (.int ((r*c-x*y)/l))):=fun x y h1 h2 h3 h4=>
    ret_v ((op2_v ((op2_v ((op2_v rfl rfl).trans (mul_in (by omega) (by omega) (by omega) (by omega))) ((op2_v rfl rfl).trans (mul_in (by omega) (by omega) (by omega) (by omega)))).trans (sub_v _ _)) rfl).trans (fdiv_in hl (by omega)))
  have ht:fB (fun env=>((fCons (fun env=>getF env 0) (fCons (fun env=>getF env 1) (fCons (fun env=>getF env 2) fNil))) env).bind m_needs_ring) [.F (.int r),.F (.int c),.F (.int l),.F (.int (r%l)),.F (.int (c%l))]=some (ringI r c l):=
    fB_v ((call_v (cons_v rfl (cons_v rfl (cons_v rfl nil_v)))).trans hg)
  have h0:unF [3,4] (fTup (fCons (op2 modI (fun env=>getF env 0) (fun env=>getF env 2)) (fCons (op2 modI (fun env=>getF env 1) (fun env=>getF env 2)) fNil))) (startE 5 [.int r,.int c,.int l])=some (.nx [.F (.int r),.F (.int c),.F (.int l),.F (.int (r%l)),.F (.int (c%l))]):=by
    unfold unF fTup
    rw [cons_v ((op2_v rfl rfl).trans (mod_in hl)) (cons_v ((op2_v rfl rfl).trans (mod_in hl)) nil_v)]
    rfl
  refine run_v ((seq_v h0).trans ?_)
  unfold lnI
  cases hq:ringI r c l with
  | true=>
    rw [hq] at ht
    refine (seq_v ((ifT_v ht).trans (show _=some (Out.nx [.F (.int r),.F (.int c),.F (.int l),.F (.int (l-r%l)),.F (.int (l-c%l))]) from rfl))).trans ?_
    rw [if_pos rfl]
    exact fin _ _ (by omega) (by omega) (by omega) (by omega)
  | false=>
    rw [hq] at ht
    refine (seq_v ((ifE_v ht).trans rfl)).trans ?_
    rw [if_neg (by simp)]
    exact fin _ _ (by omega) (by omega) (by omega) (by omega)
end K22
namespace K22
open PySem Mi
def allC (R C:Nat):List Pt:=(List.range R).flatMap fun r=>(List.range C).map fun c=>((r:Nat),(c:Nat))
def celR (i:Int):D→D
  | .int j=>cel (i,j)
  | _=>.non
def celRow (C:Nat):D→List D
  | .int i=>(rangeL 0 C).map (celR i)
  | _=>[]
theorem allC_d (R C:Nat):(rangeL 0 R).flatMap (celRow C)=(allC R C).map cel:=by
  rw [rng_flat];unfold allC;rw [List.map_flatMap]
  congr 1;funext i
  show (rangeL 0 C).map (celR i)=_
  rw [rng_map,List.map_map];rfl
theorem allC_len (R C:Nat):(allC R C).length=R*C:=by
  unfold allC
  rw [sum_const (m:=C) _ fun x _=>by simp,List.length_range]
theorem allcells_ok (R C:Nat) (hR:R≤60) (hC:C≤60):m_all_cells [.tup [.int R,.int C]]=some (.lst ((allC R C).map cel)):=by
  have hl:R*C≤60*60:=Nat.mul_le_mul hR hC
  refine run_v ((seq_v (unF_v (e:=[.F (.tup [.int R,.int C]),.F (.int R),.F (.int C)]) rfl rfl)).trans (ret_v (comp_v (itR1_v (n:=R) rfl (by omega)) rfl ?_ (by rw [List.length_map,allC_len];omega))))
  rw [← allC_d]
  refine go_flat _ _ fun d hd=>?_
  obtain ⟨i,hi,rfl⟩:=mem_rng.mp hd
  refine ⟨[.F (.int i),.un,.F (.int C)],rfl,rfl,more_v (itR1_v (n:=C) rfl (by omega)) rfl ?_⟩
  refine go_map1 (celR i) _ fun d hd=>?_
  obtain ⟨j,hj,rfl⟩:=mem_rng.mp hd
  exact ⟨_,rfl,rfl⟩
theorem mem_allC {R C:Nat} {p:Pt} (h:p∈allC R C):∃ r c:Nat,r<R∧c<C∧p=((r:Int),(c:Int)):=by
  obtain ⟨r,hr,h⟩:=List.mem_flatMap.mp h
  obtain ⟨c,hc,rfl⟩:=List.mem_map.mp h
  exact ⟨r,c,List.mem_range.mp hr,List.mem_range.mp hc,rfl⟩
def onN (dn al l:Nat) (p:Pt):Bool:=decide ((p.1*dn+p.2*al)%l=(l:Int)-1)
theorem onN_nat {dn al l r c:Nat} (hl:1≤l):onN dn al l ((r:Int),(c:Int))=decide ((r*dn+c*al)%l=l-1):=by
  unfold onN
  rw [decide_eq_decide]
  have e:((r:Int)*dn+(c:Int)*al)%(l:Int)=(((r*dn+c*al)%l:Nat):Int):=by push_cast;rfl
  show ((r:Int)*dn+(c:Int)*al)%(l:Int)=(l:Int)-1↔_
  rw [e]
  omega
theorem allC_filter {R C l dn al:Nat} (hl:1≤l):(allC R C).filter (onN dn al l)=cellsN dn al R C l:=by
  unfold allC cellsN
  rw [List.filter_flatMap]
  congr 1;funext r
  rw [List.filter_map]
  congr 1
  exact List.filter_congr fun c _=>onN_nat hl
theorem netcells_ok (R C l:Nat) (hR:R≤60) (hC:C≤60) (hl1:1≤l) (hl:l≤60):m_net_cells [.int R,.int C,.int l]=some (.lst ((netL R C l).map cel)):=by
  have on_v:∀ (n:Nat),(if decide ((l:Int)≤n)=true then (1:Int) else 0)=(on n l:Nat):=fun n=>by
    unfold on
    by_cases h:l≤n
    · rw [if_pos h,if_pos (by rw [decide_eq_true_eq];omega)];rfl
    · rw [if_neg h,if_neg (by rw [decide_eq_true_eq];omega)];rfl
  have s1:setF 3 (iteFn (fB (op2 leI (fun env=>getF env 2) (fun env=>getF env 0))) (fC (.int 1)) (fC (.int 0))) (startE 6 [.int R,.int C,.int l])=some (.nx [.F (.int R),.F (.int C),.F (.int l),.F (.int (on R l:Nat)),.un,.un]):=by
    refine set_v (d:=.int (on R l:Nat)) (ite_v (b:=decide ((l:Int)≤R)) rfl (fun h=>?_) (fun h=>?_))
    · rw [← on_v R,if_pos h];rfl
    · rw [← on_v R,if_neg (by rw [h];simp)];rfl
  have s2:setF 4 (iteFn (fB (op2 leI (fun env=>getF env 2) (fun env=>getF env 1))) (fC (.int 1)) (fC (.int 0))) [.F (.int R),.F (.int C),.F (.int l),.F (.int (on R l:Nat)),.un,.un]=some (.nx [.F (.int R),.F (.int C),.F (.int l),.F (.int (on R l:Nat)),.F (.int (on C l:Nat)),.un]):=by
    refine set_v (d:=.int (on C l:Nat)) (ite_v (b:=decide ((l:Int)≤C)) rfl (fun h=>?_) (fun h=>?_))
    · rw [← on_v C,if_pos h];rfl
    · rw [← on_v C,if_neg (by rw [h];simp)];rfl
  have b1:on R l≤1:=by unfold on;split<;>omega
  have b2:on C l≤1:=by unfold on;split<;>omega
  have hlen:(netL R C l).length≤3600:=by
    unfold netL
    rw [← allC_filter hl1]
    have:=List.length_filter_le (onN (on R l) (on C l) l) (allC R C)
    rw [allC_len] at this
    have hm:R*C≤60*60:=Nat.mul_le_mul hR hC
    omega
  refine run_v ((seq_v s1).trans ((seq_v s2).trans ((seq_v (set_v ((call_v rfl).trans (allcells_ok R C hR hC)))).trans (ret_v (comp_v (itL_v rfl) rfl ?_ (by rw [List.length_map];omega))))))
  have:=go_map (t:=tgT [0,1]) (c:=fB (op2 eqF (op2 modI (op2 addI (op2 mulI (fun env=>getF env 0) (fun env=>getF env 2)) (op2 mulI (fun env=>getF env 1) (fun env=>getF env 3))) (fun env=>getF env 4)) (op2 subI (fun env=>getF env 4) (fC (.int 1))))) (k:=emitF (fTup (fCons (fun env=>getF env 0) (fCons (fun env=>getF env 1) fNil)))) (env:=[.un,.un,.F (.int (on R l:Nat)),.F (.int (on C l:Nat)),.F (.int l)]) (ofCb (onN (on R l) (on C l) l)) (fun d=>d) ((allC R C).map cel) fun d hd=>by
    obtain ⟨p,hp,rfl⟩:=List.mem_map.mp hd
    obtain ⟨r,c,hr,hc,rfl⟩:=mem_allC hp
    refine ⟨[.F (.int r),.F (.int c),.F (.int (on R l:Nat)),.F (.int (on C l:Nat)),.F (.int l)],rfl,fB_v ((op2_v ((op2_v ((op2_v ((op2_v rfl rfl).trans (mul_in (by omega) (by omega) (by omega) (by omega))) ((op2_v rfl rfl).trans (mul_in (by omega) (by omega) (by omega) (by omega)))).trans (add_v _ _)) rfl).trans (mod_in (by omega))) ((op2_v rfl rfl).trans (sub_v _ _))).trans ((eq_v _ _).trans ?_)),fun _=>rfl⟩
    congr 2
  rw [map_id',ofCb_filter,allC_filter hl1] at this
  exact this
def psA (h w l:Nat):List Pt:=(List.range h).flatMap fun r=>(List.range (w/l)).map fun q=>((r:Nat),(q:Nat)*(l:Nat))
def psD (h w l:Nat):List Pt:=(List.range (h/l)).flatMap fun q=>(List.range w).map fun c=>((q:Nat)*(l:Nat),(c:Nat))
theorem stepN_div {w l:Nat} (hl:1≤l):stepN 0 ((w:Int)-l+1) l=w/l:=by
  unfold stepN
  by_cases h:l≤w
  · rw [if_pos (by omega)]
    have e:(w:Int)-l+1-0-1=((w-l:Nat):Int):=by omega
    have e2:w/l=(w-l)/l+1:=by
      have:=Nat.add_div_right (w-l) (by omega:0<l)
      rw [show w-l+l=w by omega] at this
      exact this
    rw [e,← Int.natCast_ediv,e2]
    generalize (w-l)/l=z
    omega
  · rw [if_neg (by omega),Nat.div_eq_of_lt (by omega)]
theorem step_map {g:D→D} (l n:Nat):(stepL 0 l n).map g=(List.range n).map fun (i:Nat)=>g (.int ((i:Nat)*(l:Nat))):=by
  unfold stepL;rw [List.map_map]
  refine List.map_congr_left fun i _=>?_
  show g (.int (0+(i:Nat)*(l:Nat)))=_
  rw [Int.zero_add]
theorem step_flat {g:D→List D} (l n:Nat):(stepL 0 l n).flatMap g=(List.range n).flatMap fun (i:Nat)=>g (.int ((i:Nat)*(l:Nat))):=by
  unfold stepL;rw [List.flatMap_map]
  congr 1;funext i
  show g (.int (0+(i:Nat)*(l:Nat)))=_
  rw [Int.zero_add]
def rowS (l n:Nat):D→List D
  | .int i=>(stepL 0 l n).map (celR i)
  | _=>[]
theorem psA_d (h w l:Nat):(rangeL 0 h).flatMap (rowS l (w/l))=(psA h w l).map cel:=by
  rw [rng_flat];unfold psA;rw [List.map_flatMap]
  congr 1;funext i
  show (stepL 0 l (w/l)).map (celR i)=_
  rw [step_map,List.map_map];rfl
theorem psD_d (h w l:Nat):(stepL 0 l (h/l)).flatMap (celRow w)=(psD h w l).map cel:=by
  rw [step_flat];unfold psD;rw [List.map_flatMap]
  congr 1;funext i
  show (rangeL 0 w).map (celR _)=_
  rw [rng_map,List.map_map];rfl
theorem psA_len (h w l:Nat):(psA h w l).length=h*(w/l):=by
  unfold psA
  rw [sum_const (m:=w/l) _ fun x _=>by simp,List.length_range]
theorem psD_len (h w l:Nat):(psD h w l).length=h/l*w:=by
  unfold psD
  rw [sum_const (m:=w) _ fun x _=>by simp,List.length_range]
theorem psA_sh (t f:Int) (h w l:Nat):(psA h w l).map (fun p=>Sh.d ⟨t+p.1,f+p.2,false,l⟩)=(lotA t f h w l).map Sh.d:=by
  unfold psA lotA
  rw [List.map_flatMap,List.map_flatMap]
  congr 1;funext r
  rw [List.map_map,List.map_map];rfl
theorem psD_sh (t f:Int) (h w l:Nat):(psD h w l).map (fun p=>Sh.d ⟨t+p.1,f+p.2,true,l⟩)=(lotD t f h w l).map Sh.d:=by
  unfold psD lotD
  rw [List.map_flatMap,List.map_flatMap]
  congr 1;funext r
  rw [List.map_map,List.map_map];rfl
theorem sm9 {i:Int} (h1:-1000≤i) (h2:i≤1000):small9 i=true:=by unfold small9;rw [decide_eq_true_eq];omega
theorem lot_tail (t f:Int) (ps:List Pt) (dn:Bool) (l:Nat) (c0 c1 c2 c3:D) (hp:ps.length≤3600) :
    retF (compF (itL (fun env=>getF env 8)) [0,1] (tgT [0,1]) (fun _=>some true) (emitF (fTup (fCons (op2 addI (fun env=>getF env 2) (fun env=>getF env 0)) (fCons (op2 addI (fun env=>getF env 3) (fun env=>getF env 1)) (fCons (fun env=>getF env 4) (fCons (fun env=>getF env 5) fNil)))))) 2 [4,5,2,3])
      [.F c0,.F c1,.F (.str (if dn=true then sDn else sAl)),.F (.int l),.F (.int t),.F (.int f),.F c2,.F c3,.F (.lst (ps.map cel))]=some (.rt (.lst (ps.map fun p=>Sh.d ⟨t+p.1,f+p.2,dn,l⟩))):=by
  refine ret_v (comp_v (itL_v rfl) rfl ?_ (by rw [List.length_map];omega))
  exact go_cel _ _ fun p _=>⟨[.F (.int p.1),.F (.int p.2),.F (.int t),.F (.int f),.F (.str (if dn=true then sDn else sAl)),.F (.int l)],rfl,rfl⟩
theorem lotA_ok (t f:Int) (h w l:Nat) (hh:h≤120) (hw:w≤60) (hl1:1≤l) (hl:l≤60) (hn:h*(w/l)≤3600):m_lot_of [.tup [.int t,.int f],.tup [.int h,.int w],.str sAl,.int l]=some (.lst ((lotA t f h w l).map Sh.d)):=by
  have s1:setF 8 (compF (itR1 (fun env=>getF env 6)) [0] (tgN 0) (fun _=>some true) (moreF (itR3 (fC (.int 0)) (op2 addI (op2 subI (fun env=>getF env 2) (fun env=>getF env 3)) (fC (.int 1))) (fun env=>getF env 3)) [1] (tgN 1) (fun _=>some true) (emitF (fTup (fCons (fun env=>getF env 0) (fCons (fun env=>getF env 1) fNil))))) 2 [7,3]) [.F (.tup [.int t,.int f]),.F (.tup [.int h,.int w]),.F (.str sAl),.F (.int l),.F (.int t),.F (.int f),.F (.int h),.F (.int w),.un]=some (.nx [.F (.tup [.int t,.int f]),.F (.tup [.int h,.int w]),.F (.str sAl),.F (.int l),.F (.int t),.F (.int f),.F (.int h),.F (.int w),.F (.lst ((psA h w l).map cel))]):=by
    refine set_v (comp_v (itR1_v (n:=h) rfl (by omega)) rfl ?_ (by rw [List.length_map,psA_len];omega))
    rw [← psA_d]
    refine go_flat _ _ fun d hd=>?_
    obtain ⟨i,hi,rfl⟩:=mem_rng.mp hd
    refine ⟨[.F (.int i),.un,.F (.int w),.F (.int l)],rfl,rfl,more_v (itR3_v (a:=0) (b:=(w:Int)-l+1) (c:=l) rfl ((op2_v ((op2_v rfl rfl).trans (sub_v _ _)) rfl).trans (add_v _ _)) rfl (sm9 (by omega) (by omega)) (sm9 (by omega) (by omega)) (sm9 (by omega) (by omega)) (by omega)) rfl ?_⟩
    rw [stepN_div hl1]
    refine go_map1 (celR i) _ fun d hd=>?_
    obtain ⟨j,hj,rfl⟩:=List.mem_map.mp hd
    exact ⟨_,rfl,rfl⟩
  refine run_v ((seq_v (unF_v (e:=[.F (.tup [.int t,.int f]),.F (.tup [.int h,.int w]),.F (.str sAl),.F (.int l),.F (.int t),.F (.int f),.un,.un,.un]) rfl rfl)).trans ((seq_v (unF_v (e:=[.F (.tup [.int t,.int f]),.F (.tup [.int h,.int w]),.F (.str sAl),.F (.int l),.F (.int t),.F (.int f),.F (.int h),.F (.int w),.un]) rfl rfl)).trans ((seq_v ((ifT_v rfl).trans s1)).trans ((lot_tail t f (psA h w l) false l _ _ _ _ (by rw [psA_len];omega)).trans (by rw [psA_sh])))))
theorem lotD_ok (t f:Int) (h w l:Nat) (hh:h≤120) (hw:w≤60) (hl1:1≤l) (hl:l≤60) (hn:h/l*w≤3600):m_lot_of [.tup [.int t,.int f],.tup [.int h,.int w],.str sDn,.int l]=some (.lst ((lotD t f h w l).map Sh.d)):=by
  have s1:setF 8 (compF (itR3 (fC (.int 0)) (op2 addI (op2 subI (fun env=>getF env 6) (fun env=>getF env 3)) (fC (.int 1))) (fun env=>getF env 3)) [0] (tgN 0) (fun _=>some true) (moreF (itR1 (fun env=>getF env 2)) [1] (tgN 1) (fun _=>some true) (emitF (fTup (fCons (fun env=>getF env 0) (fCons (fun env=>getF env 1) fNil))))) 2 [7]) [.F (.tup [.int t,.int f]),.F (.tup [.int h,.int w]),.F (.str sDn),.F (.int l),.F (.int t),.F (.int f),.F (.int h),.F (.int w),.un]=some (.nx [.F (.tup [.int t,.int f]),.F (.tup [.int h,.int w]),.F (.str sDn),.F (.int l),.F (.int t),.F (.int f),.F (.int h),.F (.int w),.F (.lst ((psD h w l).map cel))]):=by
    refine set_v (comp_v (itR3_v (a:=0) (b:=(h:Int)-l+1) (c:=l) rfl ((op2_v ((op2_v rfl rfl).trans (sub_v _ _)) rfl).trans (add_v _ _)) rfl (sm9 (by omega) (by omega)) (sm9 (by omega) (by omega)) (sm9 (by omega) (by omega)) (by omega)) rfl ?_ (by rw [List.length_map,psD_len];omega))
    rw [stepN_div hl1,← psD_d]
    refine go_flat _ _ fun d hd=>?_
    obtain ⟨i,hi,rfl⟩:=List.mem_map.mp hd
    refine ⟨[.F (.int (0+(i:Nat)*(l:Int))),.un,.F (.int w)],rfl,rfl,more_v (itR1_v (n:=w) rfl (by omega)) rfl ?_⟩
    refine go_map1 (celR _) _ fun d hd=>?_
    obtain ⟨j,hj,rfl⟩:=mem_rng.mp hd
    exact ⟨_,rfl,rfl⟩
  refine run_v ((seq_v (unF_v (e:=[.F (.tup [.int t,.int f]),.F (.tup [.int h,.int w]),.F (.str sDn),.F (.int l),.F (.int t),.F (.int f),.un,.un,.un]) rfl rfl)).trans ((seq_v (unF_v (e:=[.F (.tup [.int t,.int f]),.F (.tup [.int h,.int w]),.F (.str sDn),.F (.int l),.F (.int t),.F (.int f),.F (.int h),.F (.int w),.un]) rfl rfl)).trans ((seq_v ((ifE_v rfl).trans s1)).trans ((lot_tail t f (psD h w l) true l _ _ _ _ (by rw [psD_len];omega)).trans (by rw [psD_sh])))))
end K22
namespace K22
open PySem Mi
theorem mul60 {a b:Nat} (ha:a≤60) (hb:b≤60):a*b≤3600:=Nat.mul_le_mul ha hb
theorem div60 {a l:Nat} (ha:a≤60):a/l≤60:=Nat.le_trans (Nat.div_le_self _ _) ha
theorem ring_fit {R C l:Nat} (hl:1≤l) (hg:ringI R C l=true):l+R%l≤R∧l+C%l≤C:=by
  obtain ⟨q1,q2,q3⟩:=(ring_iff R C l).mp hg
  obtain ⟨h1,h2⟩:=dm (n:=R) hl
  obtain ⟨h3,h4⟩:=dm (n:=C) hl
  have a:1≤R/l:=(Nat.le_div_iff_mul_le (by omega)).mpr (by omega)
  have a2:l*1≤l*(R/l):=Nat.mul_le_mul_left l a
  have b:1≤C/l:=(Nat.le_div_iff_mul_le (by omega)).mpr (by omega)
  have b2:l*1≤l*(C/l):=Nat.mul_le_mul_left l b
  omega
theorem ringships_ok (R C l:Nat) (hR:R≤60) (hC:C≤60) (hl1:1≤l) (hl:l≤60) (hg:ringI R C l=true):m_ring_ships [.int R,.int C,.int l]=some (.lst ((shipsL R C l).map Sh.d)):=by
  obtain ⟨f1,f2⟩:=ring_fit hl1 hg
  have x2:=(dm (n:=R) hl1).2
  have y2:=(dm (n:=C) hl1).2
  have h0:unF [3,4] (fTup (fCons (op2 modI (fun env=>getF env 0) (fun env=>getF env 2)) (fCons (op2 modI (fun env=>getF env 1) (fun env=>getF env 2)) fNil))) (startE 8 [.int R,.int C,.int l])=some (.nx [.F (.int R),.F (.int C),.F (.int l),.F (.int (R%l:Nat)),.F (.int (C%l:Nat)),.un,.un,.un]):=by
    refine unF_v (tup_v (cons_v ((op2_v rfl rfl).trans ((mod_in (by omega)).trans ?_)) (cons_v ((op2_v rfl rfl).trans ((mod_in (by omega)).trans ?_)) nil_v))) rfl
    · rw [Int.natCast_emod]
    · rw [Int.natCast_emod]
  unfold shipsL
  rw [if_pos hg]
  obtain ⟨T,hT⟩:∃ T,T=R-l-R%l:=⟨_,rfl⟩
  obtain ⟨U,hU⟩:∃ U,U=C-l-C%l:=⟨_,rfl⟩
  rw [← hT,← hU]
  refine run_v ((seq_v h0).trans ?_)
  clear h0 hg
  generalize R%l=x at *
  generalize C%l=y at *
  have h1:unF [5,6] (fTup (fCons (op2 subI (op2 subI (fun env=>getF env 0) (fun env=>getF env 2)) (fun env=>getF env 3)) (fCons (op2 subI (op2 subI (fun env=>getF env 1) (fun env=>getF env 2)) (fun env=>getF env 4)) fNil))) [.F (.int R),.F (.int C),.F (.int l),.F (.int x),.F (.int y),.un,.un,.un]=some (.nx [.F (.int R),.F (.int C),.F (.int l),.F (.int x),.F (.int y),.F (.int T),.F (.int U),.un]):=by
    refine unF_v (tup_v (cons_v ((op2_v ((op2_v rfl rfl).trans (sub_v _ _)) rfl).trans ((sub_v _ _).trans ?_)) (cons_v ((op2_v ((op2_v rfl rfl).trans (sub_v _ _)) rfl).trans ((sub_v _ _).trans ?_)) nil_v))) rfl
    · rw [show (R:Int)-l-x=T by omega]
    · rw [show (C:Int)-l-y=U by omega]
  have n1:T/l*C≤3600:=mul60 (div60 (by omega)) hC
  have n2:(l+x)*(U/l)≤3600:=mul60 (by omega) (div60 (by omega))
  have n3:x*(l/l)≤3600:=mul60 (by omega) (div60 (by omega))
  have n4:l/l*y≤3600:=mul60 (div60 (by omega)) (by omega)
  have L1:=lotD_ok 0 0 T C l (by omega) hC hl1 hl n1
  have L2:=lotA_ok (T:Nat) 0 (l+x) U l (by omega) (by omega) hl1 hl n2
  have L3:=lotA_ok (T:Nat) (U:Nat) x l l (by omega) (by omega) hl1 hl n3
  have L4:=lotD_ok (T:Nat) ((U:Nat)+(l:Nat)) l y l (by omega) (by omega) hl1 hl n4
  have L5:=lotA_ok ((T:Nat)+(l:Nat)) ((U:Nat)+(y:Nat)) x l l (by omega) (by omega) hl1 hl n3
  have L6:=lotD_ok ((T:Nat)+(x:Nat)) (U:Nat) l y l (by omega) (by omega) hl1 hl n4
  rw [Int.natCast_add] at L2
  refine (seq_v h1).trans ((seq_v (setO_v ((call_v rfl).trans L1))).trans ((seq_v (ext_v ((call_v rfl).trans L2) rfl ?_)).trans ((seq_v (ext_v ((call_v rfl).trans L3) rfl ?_)).trans ((seq_v (ext_v ((call_v rfl).trans L4) rfl ?_)).trans ((seq_v (ext_v ((call_v rfl).trans L5) rfl ?_)).trans ((seq_v (ext_v ((call_v rfl).trans L6) rfl ?_)).trans ?_))))))
  · simp only [List.length_append,List.length_map,lotA_len,lotD_len];omega
  · simp only [List.length_append,List.length_map,lotA_len,lotD_len];omega
  · simp only [List.length_append,List.length_map,lotA_len,lotD_len];omega
  · simp only [List.length_append,List.length_map,lotA_len,lotD_len];omega
  · simp only [List.length_append,List.length_map,lotA_len,lotD_len];omega
  · simp only [List.map_append]
    rfl
theorem apartships_ok (R C l:Nat) (hR:R≤60) (hC:C≤60) (hl1:1≤l) (hl:l≤60):m_apart_ships [.int R,.int C,.int l]=some (.lst ((shipsL R C l).map Sh.d)):=by
  have y2:=(dm (n:=C) hl1).2
  have y3:C%l≤C:=Nat.mod_le _ _
  have ht:fB (fun env=>((fCons (fun env=>getF env 0) (fCons (fun env=>getF env 1) (fCons (fun env=>getF env 2) fNil))) env).bind m_needs_ring) (startE 5 [.int R,.int C,.int l])=some (ringI R C l):=
    fB_v ((call_v (cons_v rfl (cons_v rfl (cons_v rfl nil_v)))).trans (ring_ok R C l (by omega)))
  cases hg:ringI R C l with
  | true=>
    rw [hg] at ht
    exact run_v (seqR_v ((ifT_v ht).trans (ret_v ((call_v rfl).trans (ringships_ok R C l hR hC hl1 hl hg)))))
  | false=>
    rw [hg] at ht
    unfold shipsL
    rw [if_neg (by rw [hg];simp)]
    have s1:setF 3 (op2 subI (fun env=>getF env 1) (op2 modI (fun env=>getF env 1) (fun env=>getF env 2))) (startE 5 [.int R,.int C,.int l])=some (.nx [.F (.int R),.F (.int C),.F (.int l),.F (.int (C-C%l:Nat)),.un]):=by
      refine set_v ((op2_v rfl ((op2_v rfl rfl).trans (mod_in (by omega)))).trans ((sub_v _ _).trans ?_))
      rw [← Int.natCast_emod,show (C:Int)-(C%l:Nat)=(C-C%l:Nat) by omega]
    have n1:R*((C-C%l)/l)≤3600:=mul60 hR (div60 (by omega))
    have n2:R/l*(C%l)≤3600:=mul60 (div60 hR) (by omega)
    have L1:=lotA_ok 0 0 R (C-C%l) l (by omega) (by omega) hl1 hl n1
    have L2:=lotD_ok 0 (C-C%l:Nat) R (C%l) l (by omega) (by omega) hl1 hl n2
    have e:(C:Int)-(C-C%l:Nat)=(C%l:Nat):=by omega
    refine run_v ((seq_v ((ifE_v ht).trans rfl)).trans ((seq_v s1).trans ((seq_v (set_v ((call_v rfl).trans L1))).trans (ret_v ((addL_v rfl ((call_v (cons_v rfl (cons_v (tup_v (cons_v rfl (cons_v ((op2_v rfl rfl).trans ((sub_v _ _).trans (by rw [e]))) nil_v))) (cons_v rfl (cons_v rfl nil_v))))).trans L2) ?_).trans ?_)))))
    · simp only [List.length_map,lotA_len,lotD_len];omega
    · rw [List.map_append]
end K22
namespace K22
open PySem Mi
theorem num_sh (s:Sh):numD s.d=(s.a*4096+s.b)*2+(if s.dn=true then 1 else 0):=by
  obtain ⟨a,b,dn,n⟩:=s
  cases dn
  · show (a*4096+b)*2+(if sAl=sDn then (1:Int) else 0)=_
    rw [if_neg (by decide +kernel)];rfl
  · show (a*4096+b)*2+(if sDn=sDn then (1:Int) else 0)=_
    rw [if_pos rfl];rfl
theorem numK_sh (s:Sh):numK s.ks=numD s.d:=(numD_tup rfl).symm
theorem num_bef {s t:Sh} {l:Nat} (hs:0≤s.b∧s.b<4096∧s.n=l) (ht:0≤t.b∧t.b<4096∧t.n=l) (h:numD s.d≤numD t.d) (hn:s≠t):Bef s t:=by
  rw [num_sh,num_sh] at h
  obtain ⟨a,b,dn,n⟩:=s
  obtain ⟨a',b',dn',n'⟩:=t
  obtain ⟨h1,h2,rfl⟩:=hs
  obtain ⟨g1,g2,g3⟩:=ht
  simp only at *
  subst g3
  unfold Bef
  simp only
  by_cases e1:a=a'
  · by_cases e2:b=b'
    · subst e1;subst e2
      cases dn<;>cases dn'<;>simp at h hn ⊢<;>omega
    · refine .inr ⟨e1,.inl ?_⟩
      cases dn<;>cases dn'<;>simp at h<;>omega
  · refine .inl ?_
    cases dn<;>cases dn'<;>simp at h<;>omega
theorem bef_num {s t:Sh} {l:Nat} (hs:0≤s.b∧s.b<4096∧s.n=l) (ht:0≤t.b∧t.b<4096∧t.n=l) (h:numD s.d=numD t.d):s=t:=by
  by_cases e:s=t
  · exact e
  · exact absurd (num_bef ht hs (by omega) (Ne.symm e)) (bef_asymm (num_bef hs ht (by omega) e))
theorem nodup_flat:∀ {ss:List Sh},(∀ s∈ss,s.cs≠[])→(flat ss).Nodup→ss.Nodup
  | [],_,_=>List.nodup_nil
  | s::ss,h,hn=>by
    rw [show flat (s::ss)=s.cs++flat ss from rfl] at hn
    obtain ⟨h1,h2,h3⟩:=List.nodup_append.mp hn
    refine List.nodup_cons.mpr ⟨fun hm=>?_,nodup_flat (fun x hx=>h x (List.mem_cons_of_mem _ hx)) h2⟩
    obtain ⟨p,hp⟩:=List.exists_mem_of_ne_nil _ (h s (List.mem_cons_self ..))
    exact h3 p hp p (List.mem_flatMap.mpr ⟨s,hm,hp⟩) rfl
theorem ship_in {R C l:Nat} (hC:C≤60) (hl:1≤l) {s:Sh} (hs:s∈shipsL R C l):0≤s.b∧s.b<4096∧s.n=l:=by
  have hn:=(ships_n hl hs).1
  have h0:s.at (0:Nat)∈s.cs:=mem_cs.mpr ⟨0,by omega,rfl⟩
  have:=(ships_apart hl).2 _ (List.mem_flatMap.mpr ⟨s,hs,h0⟩)
  have e:(s.at (0:Nat)).2=s.b:=by
    unfold Sh.at
    split
    · rfl
    · show s.b+((0:Nat):Int)=s.b;omega
  unfold Bx at this
  rw [e] at this
  exact ⟨by omega,by omega,hn⟩
theorem ships_nodup {R C l:Nat} (hl:1≤l):(shipsL R C l).Nodup:=nodup_flat (fun s hs h=>by
  have:=cs_len s
  rw [h,(ships_n hl hs).1] at this
  simp at this;omega) (ships_apart hl).1
theorem sort_ships {R C l:Nat} (hC:C≤60) (hl:1≤l):∃ ss:List Sh,ss.Perm (shipsL R C l)∧ss.Pairwise Bef∧sortW (.lst ((shipsL R C l).map Sh.d))=some (.lst (ss.map Sh.d)):=by
  obtain ⟨ss,p,q⟩:=perm_lift Sh.d (srtW_perm ((shipsL R C l).map Sh.d)) rfl
  have mem:∀ s∈ss,0≤s.b∧s.b<4096∧s.n=l:=fun s hs=>ship_in hC hl (p.mem_iff.mp hs)
  refine ⟨ss,p,?_,?_⟩
  · have h1:=srtW_up ((shipsL R C l).map Sh.d)
    rw [← q,List.pairwise_map] at h1
    have h2:ss.Nodup:=p.nodup_iff.mpr (ships_nodup hl)
    exact List.Pairwise.imp_of_mem (fun {s t} hs ht h=>num_bef (mem s hs) (mem t ht) h.1 h.2) (List.Pairwise.and h1 h2)
  · show (unKeys ((shipsL R C l).map Sh.d)).bind _=_
    rw [unKeys_sh]
    show (if okW ((shipsL R C l).map Sh.ks)=true then some (D.lst (srtW ((shipsL R C l).map Sh.d))) else none)=_
    rw [if_pos,q]
    unfold okW
    rw [Bool.and_eq_true,decide_eq_true_eq]
    constructor
    · refine List.all_eq_true.mpr fun k hk=>?_
      obtain ⟨s,hs,rfl⟩:=List.mem_map.mp hk
      have e0:len0 ((shipsL R C l).map Sh.ks)=l:=by
        have hn:∀ s∈shipsL R C l,s.n=l:=fun s hs=>(ships_n hl hs).1
        generalize shipsL R C l=zs at *
        cases zs with
        | nil=>cases hs
        | cons z zs=>
          show ((z.n:Nat):Int)=l
          rw [hn z (List.mem_cons_self ..)]
      rw [e0]
      obtain ⟨b1,b2,b3⟩:=ship_in hC hl hs
      show (decide (0≤s.b)&&decide (s.b<4096)&&(decide (s.w=sAl)||decide (s.w=sDn))&&decide ((s.n:Int)=l))=true
      rw [decide_eq_true b1,decide_eq_true b2,decide_eq_true (by omega:(s.n:Int)=l)]
      unfold Sh.w
      split
      · rw [decide_eq_true (p:=sDn=sDn) rfl,Bool.or_true];rfl
      · rw [decide_eq_true (p:=sAl=sAl) rfl];rfl
    · rw [List.map_map]
      refine List.pairwise_map.mpr (List.Pairwise.imp_of_mem (fun {s t} hs ht h e=>h ?_) (ships_nodup hl))
      rw [Function.comp_apply,Function.comp_apply,numK_sh,numK_sh] at e
      exact bef_num (ship_in hC hl hs) (ship_in hC hl ht) e
theorem netof_ok (R C l:Nat) (hR:R≤60) (hC:C≤60) (hl1:1≤l) (hl:l≤60):∃ ss:List Sh,ss.Perm (shipsL R C l)∧ss.Pairwise Bef∧m_net_of [.int R,.int C,.int l]=some (.tup [.lst ((netL R C l).map cel),.lst (ss.map Sh.d)]):=by
  obtain ⟨ss,p,q,h⟩:=sort_ships (R:=R) hC hl1
  refine ⟨ss,p,q,run_v (ret_v ?_)⟩
  have a1:(fun env=>((fCons (fun env=>getF env 0) (fCons (fun env=>getF env 1) (fCons (fun env=>getF env 2) fNil))) env).bind m_net_cells) (startE 3 [.int R,.int C,.int l])=some (.lst ((netL R C l).map cel)):=(call_v rfl).trans (netcells_ok R C l hR hC hl1 hl)
  have a2:(un1 sortW (fun env=>((fCons (fun env=>getF env 0) (fCons (fun env=>getF env 1) (fCons (fun env=>getF env 2) fNil))) env).bind m_apart_ships)) (startE 3 [.int R,.int C,.int l])=some (.lst (ss.map Sh.d)):=(un1_v ((call_v rfl).trans (apartships_ok R C l hR hC hl1 hl))).trans h
  unfold fTup2
  rw [a1,a2]
  rfl
theorem shipsright_ok (R C l:Nat) (hl1:1≤l) (hl:l≤60) (ss:List Sh) (h:Shs ss) (hs:∀ s∈ss,s.n=l∧(l=1→s.dn=false)) (hb:∀ p∈flat ss,Bx 0 0 R C p) (hu:ss.Pairwise Bef) (hn:(flat ss).Nodup):m__law_ships_right [.int R,.int C,.int l,.lst (ss.map Sh.d)]=some (.bl true):=by
  obtain ⟨e2,g1,t4,t5,t6,rfl⟩:=loop_all (t:=tgN 4) (body:=B__law_ships_right_2 m__law_cells) (fun e=>∃ s4 s5 s6,e=[.F (.int R),.F (.int C),.F (.int l),.F (.lst (ss.map Sh.d)),s4,s5,s6]) (ss.map Sh.d) (startE 7 [.int R,.int C,.int l,.lst (ss.map Sh.d)]) ⟨.un,.un,.un,rfl⟩ fun d hd e hq_=>by
    obtain ⟨s4,s5,s6,he⟩:=hq_
    subst he
    obtain ⟨s,hs0,rfl⟩:=List.mem_map.mp hd
    obtain ⟨h1,h2⟩:=hs s hs0
    have c1:(orB (notB (fB (un1 (isiF .tuple) (fun env=>getF env 4)))) (orB (fB (op2 neF (un1 lenD (fun env=>getF env 4)) (fC (.int 4)))) (orB (fB (op2 neF (op2 idxD (fun env=>getF env 4) (fC (.int 3))) (fun env=>getF env 2))) (fB (op2 (inF true) (op2 idxD (fun env=>getF env 4) (fC (.int 2))) (fTup (fCons (fC (.str (Str.ofString "along"))) (fCons (fC (.str (Str.ofString "down"))) fNil)))))))) [.F (.int R),.F (.int C),.F (.int l),.F (.lst (ss.map Sh.d)),.F s.d,s5,s6]=some false:=by
      refine (orF_v rfl).trans ((orF_v (fB_v rfl)).trans ((orF_v (fB_v ((op2_v (x:=.int s.n) rfl rfl).trans ((ne_v _ _).trans (by rw [h1];simp))))).trans (fB_v ?_)))
      refine ninT_v (d:=.str s.w) (b:=true) rfl rfl (by unfold dep;omega) ?_
      unfold Sh.w
      split<;>rfl
    have c2:(andB (fB (op2 eqF (fun env=>getF env 2) (fC (.int 1)))) (fB (op2 eqF (op2 idxD (fun env=>getF env 4) (fC (.int 2))) (fC (.str (Str.ofString "down")))))) [.F (.int R),.F (.int C),.F (.int l),.F (.lst (ss.map Sh.d)),.F s.d,s5,s6]=some false:=by
      have q1:fB (op2 eqF (fun env=>getF env 2) (fC (.int 1))) [.F (.int R),.F (.int C),.F (.int l),.F (.lst (ss.map Sh.d)),.F s.d,s5,s6]=some ((l:Int)==1):=rfl
      by_cases hl2:l=1
      · have hd:=h2 hl2
        refine (andB_v q1 fun _=>fB_v (eq_d (d:=.str s.w) (e:=.str sDn) (b:=false) rfl rfl rfl ?_)).trans (by rw [Bool.and_false])
        unfold Sh.w
        rw [hd];rfl
      · have:((l:Int)==1)=false:=by rw [beq_eq_false_iff_ne];omega
        rw [this] at q1
        exact andF_v q1
    obtain ⟨e3,k1,t5,t6,rfl⟩:=loop_all (t:=tgT [5,6]) (body:=B__law_ships_right_1) (fun e=>∃ s5 s6,e=[.F (.int R),.F (.int C),.F (.int l),.F (.lst (ss.map Sh.d)),.F s.d,s5,s6]) (s.cs.map cel) [.F (.int R),.F (.int C),.F (.int l),.F (.lst (ss.map Sh.d)),.F s.d,s5,s6] ⟨s5,s6,rfl⟩ fun d hd e hq_=>by
      obtain ⟨s5,s6,he⟩:=hq_
      subst he
      obtain ⟨p,hp,rfl⟩:=List.mem_map.mp hd
      have hx:=hb p (List.mem_flatMap.mpr ⟨s,hs0,hp⟩)
      unfold Bx at hx
      refine ⟨_,tg_v (e0:=[.F (.int R),.F (.int C),.F (.int l),.F (.lst (ss.map Sh.d)),.F s.d,.F (.int p.1),.F (.int p.2)]) rfl ((ifE_v ?_).trans rfl),_,_,rfl⟩
      refine (orF_v (fB_v ((op2_v (x:=.int p.1) rfl rfl).trans ((lt_v _ _).trans (by rw [decide_eq_false (by omega)]))))).trans ((orF_v (fB_v ((op2_v (x:=.int p.1) (y:=.int R) rfl rfl).trans ((ev_geI _ _).trans (by rw [decide_eq_false (by omega)]))))).trans ((orF_v (fB_v ((op2_v (x:=.int p.2) rfl rfl).trans ((lt_v _ _).trans (by rw [decide_eq_false (by omega)]))))).trans (fB_v ((op2_v (x:=.int p.2) (y:=.int C) rfl rfl).trans ((ev_geI _ _).trans (by rw [decide_eq_false (by omega)]))))))
    exact ⟨_,tg_v (e0:=[.F (.int R),.F (.int C),.F (.int l),.F (.lst (ss.map Sh.d)),.F s.d,s5,s6]) rfl ((seq_v ((ifE_v c1).trans rfl)).trans ((seq_v ((ifE_v c2).trans rfl)).trans ((for_v (itL_v ((call_v rfl).trans (cells_ok s (by omega))))).trans k1))),_,_,_,rfl⟩
  refine run_v ((seq_v ((for_v (itL_v rfl)).trans g1)).trans (ret_v ?_))
  refine (and_v (p:=true) (q:=true) (eq_d (b:=true) rfl (sortU_sh rfl hu) (ok_r (dep_shs ss) (by rw [pl_shs];rfl)) (eqD_refl _ (pl_shs ss))) fun _=>?_).trans rfl
  exact (call_v rfl).trans ((apart_ok ss h).trans (by rw [decide_eq_true hn]))
end K22
namespace K22
open PySem Mi
theorem mem_netL {R C l r c:Nat} (hr:r<R) (hc:c<C) (h:(r*on R l+c*on C l)%l=l-1):((r:Int),(c:Int))∈netL R C l:=by
  unfold netL cellsN
  exact List.mem_flatMap.mpr ⟨r,List.mem_range.mpr hr,List.mem_map.mpr ⟨c,List.mem_filter.mpr ⟨List.mem_range.mpr hc,decide_eq_true h⟩,rfl⟩⟩
theorem netL_up (R C l:Nat):(netL R C l).Pairwise fun p q=>p.1<q.1∨(p.1=q.1∧p.2<q.2):=by
  unfold netL cellsN
  refine List.pairwise_flatMap.mpr ⟨fun r _=>?_,?_⟩
  · refine List.pairwise_map.mpr (List.Pairwise.imp (R:=fun (x y:Nat)=>x<y) (fun {x y} h=>.inr ⟨rfl,?_⟩) (List.Pairwise.filter _ List.pairwise_lt_range))
    show (x:Int)<y
    omega
  · refine List.Pairwise.imp (R:=fun (x y:Nat)=>x<y) (fun {x y} h p hp q hq=>.inl ?_) List.pairwise_lt_range
    obtain ⟨c,_,rfl⟩:=List.mem_map.mp hp
    obtain ⟨c',_,rfl⟩:=List.mem_map.mp hq
    show (x:Int)<y
    omega
theorem rest_k {x l:Nat} (hl:1≤l):∃ k,k<l∧(x+k)%l=l-1:=by
  obtain ⟨h1,h2⟩:=dm (n:=x) hl
  exact ⟨l-1-x%l,by omega,(dv (q:=x/l) (r:=l-1) (by omega) (by omega)).2⟩
theorem netL_ok {R C l:Nat} (hl:1≤l):netB R C l (netL R C l)=true:=by
  unfold netB
  rw [Bool.and_eq_true,Bool.and_eq_true,decide_eq_true_eq]
  refine ⟨List.all_eq_true.mpr fun p hp=>?_,(netL_up R C l).imp fun {p q} h e=>?_,List.all_eq_true.mpr fun s hs=>?_⟩
  · unfold netL cellsN at hp
    obtain ⟨r,hr,hp⟩:=List.mem_flatMap.mp hp
    obtain ⟨c,hc,rfl⟩:=List.mem_map.mp hp
    have hr:=List.mem_range.mp hr
    have hc:=List.mem_range.mp (List.mem_filter.mp hc).1
    show (decide (0≤(r:Int))&&decide ((r:Int)<R)&&(decide (0≤(c:Int))&&decide ((c:Int)<C)))=true
    rw [decide_eq_true (by omega),decide_eq_true (by omega),decide_eq_true (by omega),decide_eq_true (by omega)];rfl
  · subst e
    rcases h with h | ⟨_,h⟩<;>omega
  · unfold hit
    rcases List.mem_append.mp hs with hs | hs
    · obtain ⟨i,hi,h2⟩:=List.mem_flatMap.mp hs
      obtain ⟨j,hj,rfl⟩:=List.mem_map.mp h2
      have hi:=List.mem_range.mp hi
      have hj:=List.mem_range.mp hj
      obtain ⟨k,hk,hm⟩:=rest_k (x:=i*on R l+j) hl
      refine List.any_eq_true.mpr ⟨((i:Int),(j:Int)+(k:Nat)),mem_cs.mpr ⟨k,hk,rfl⟩,decide_eq_true ?_⟩
      have:=mem_netL (R:=R) (C:=C) (l:=l) (r:=i) (c:=j+k) hi (by omega) (by rw [show on C l=1 by unfold on;rw [if_pos (by omega)],Nat.mul_one,← Nat.add_assoc];exact hm)
      rw [Int.natCast_add] at this
      exact this
    · obtain ⟨i,hi,h2⟩:=List.mem_flatMap.mp hs
      obtain ⟨j,hj,rfl⟩:=List.mem_map.mp h2
      have hi:=List.mem_range.mp hi
      have hj:=List.mem_range.mp hj
      obtain ⟨k,hk,hm⟩:=rest_k (x:=i+j*on C l) hl
      refine List.any_eq_true.mpr ⟨((i:Int)+(k:Nat),(j:Int)),mem_cs.mpr ⟨k,hk,rfl⟩,decide_eq_true ?_⟩
      have:=mem_netL (R:=R) (C:=C) (l:=l) (r:=i+k) (c:=j) (by omega) hj (by rw [show on R l=1 by unfold on;rw [if_pos (by omega)],Nat.mul_one,show i+k+j*on C l=i+j*on C l+k by omega];exact hm)
      rw [Int.natCast_add] at this
      exact this
theorem take2_v {i j k:Nat} {fe:Fe} {f2 f4:Fb} {fr:Fs} {env:En} {ds es:List D} (h:fe env=some (.tup [.lst ds,.lst es])) (hl:i<env.length∧j<env.length∧k<env.length)
    (h2:f2 (env.set i (.F (.tup [.lst ds,.lst es])))=some false) (h4:f4 (((env.set i (.F (.tup [.lst ds,.lst es]))).set j (.F (.lst ds))).set k (.F (.lst es)))=some false) :
    take2 i j k fe f2 f4 fr env=fr (((env.set i .un).set j (.O (.L ds))).set k (.O (.L es))):=by
  unfold take2
  rw [h,Option.bind_some]
  show (if i<env.length∧j<env.length∧k<env.length then _ else none)=_
  rw [if_pos hl,h2,Option.bind_some,if_neg (by simp),h4,Option.bind_some,if_neg (by simp)]
theorem one (s0:Slot) (c:Int) (s2 s3 s4 s5 s6 s7 s8:Slot):∃ t2 t3 t4 t5 t6 t7 t8,B_law_1 m__law_sizes m_net_of m__law_is_net m__law_ships_right m_is_net m_lie_apart m_least_net [s0,.F (.int c),s2,s3,s4,s5,s6,s7,s8]=some (.nx [s0,.F (.int c),t2,t3,t4,t5,t6,t7,t8]):=by
  obtain ⟨x,y,z,h1,hx,hy,hz⟩:=sizes_ok c
  obtain ⟨R,rfl⟩:∃ n:Nat,x=n:=⟨x.toNat,by omega⟩
  obtain ⟨C,rfl⟩:∃ n:Nat,y=n:=⟨y.toNat,by omega⟩
  obtain ⟨l,rfl⟩:∃ n:Nat,z=n:=⟨z.toNat,by omega⟩
  have hR:R≤60:=by omega
  have hC:C≤60:=by omega
  have hl1:1≤l:=by omega
  have hl:l≤60:=by omega
  obtain ⟨ss,p,q,hnet⟩:=netof_ok R C l hR hC hl1 hl
  have len1:=netL_len (R:=R) (C:=C) hl1 (by omega) (by omega)
  have len2:ss.length=gl R C l:=by rw [p.length_eq,ships_len hl1]
  have hgl:=gl_le (R:=R) (C:=C) hl1
  have hRC:R*C≤3600:=mul60 hR hC
  have hg1:gl R C l≤3600:=by
    have:1*gl R C l≤l*gl R C l:=Nat.mul_le_mul_right _ hl1
    omega
  have sn:∀ s∈ss,s.n=l∧(l=1→s.dn=false):=fun s hs=>ships_n hl1 (p.mem_iff.mp hs)
  have pf:(flat ss).Perm (flat (shipsL R C l)):=List.Perm.flatMap_right _ p
  have fnd:(flat ss).Nodup:=pf.nodup_iff.mpr (ships_apart hl1).1
  have fbx:∀ p∈flat ss,Bx 0 0 R C p:=fun u hu=>(ships_apart hl1).2 u (pf.mem_iff.mp hu)
  have hshs:Shs ss:=⟨by rw [flat_lenN fun s hs=>(sn s hs).1,len2,Nat.mul_comm];omega,fun s hs=>by rw [(sn s hs).1];exact hl⟩
  have nl:(netL R C l).length≤3600:=by omega
  have e1:unF [2,3,4] (fun env=>((fCons (fun env=>getF env 1) fNil) env).bind m__law_sizes) [s0,.F (.int c),s2,s3,s4,s5,s6,s7,s8]=some (.nx [s0,.F (.int c),.F (.int R),.F (.int C),.F (.int l),s5,s6,s7,s8]):=unF_v ((call_v rfl).trans h1) rfl
  have isn:=isnet_ok R C l hR hC hl (netL R C l) nl
  have lwn:=lawnet_ok R C l hR hC hl1 hl (netL R C l) nl
  rw [netL_ok hl1] at isn lwn
  have rgt:=shipsright_ok R C l hl1 hl ss hshs sn fbx q fnd
  have lie:=lie_ok ss hshs
  rw [decide_eq_true fnd] at lie
  have lst:=net_ok R C l (by omega) (by omega) (by omega) (by omega) (by omega) (by omega)
  rw [lnI_is hl1] at lst
  have upc:=netL_up R C l
  have plc:=pl_cels (netL R C l)
  have pls':=pl_shs ss
  have dpc:dep (.lst ((netL R C l).map cel))≤2:=dep_lst (n:=1) fun d hd=>by obtain ⟨u,_,rfl⟩:=List.mem_map.mp hd;exact dep_cel1 u
  have dps:dep (.lst (ss.map Sh.d))≤2:=dep_lst (n:=1) fun d hd=>by obtain ⟨u,_,rfl⟩:=List.mem_map.mp hd;exact dep_sh1 u
  have lc:((netL R C l).map cel).length=gl R C l:=by rw [List.length_map,len1]
  have ls:(ss.map Sh.d).length=gl R C l:=by rw [List.length_map,len2]
  have srt:∀ {f:Fe} {env:En},f env=some (.lst ((netL R C l).map cel))→un1 sortU f env=some (.lst ((netL R C l).map cel)):=fun h=>sortU_cel h upc
  clear upc len1 len2 hgl hshs sn pf fnd fbx nl
  generalize (netL R C l).map cel=A at *
  generalize ss.map Sh.d=B at *
  refine ⟨.F (.int R),.F (.int C),.F (.int l),.un,.O (.L (A++[.tup [.int 0,.int 0]])),.O (.L (B++[.non])),.F (.tup [.lst A,.lst B]),(seq_v e1).trans ((take2_v (ds:=A) (es:=B) ((call_v rfl).trans hnet) ⟨by simp,by simp,by simp⟩ ?_ ?_).trans ?_)⟩
  · refine (orF_v rfl).trans (fB_v ((neNil_v (xs:=[]) (comp_v (itT_v (ds:=[.lst A,.lst B]) rfl) rfl rfl (by simp)) rfl).trans rfl))
  · refine (orF_v (fB_v rfl)).trans ((orF_v (fB_v ((op2_v (len_v rfl) (len_v rfl)).trans ((ne_v _ _).trans (by rw [lc,ls];simp))))).trans (fB_v (neSame rfl (srt rfl) (by omega) plc)))
  · have k1:borF [6,7] (orB (notB (fB (fun env=>((fCons (fun env=>getF env 2) (fCons (fun env=>getF env 3) (fCons (fun env=>getF env 4) (fCons (fun env=>getF env 6) fNil)))) env).bind m__law_is_net))) (notB (fB (fun env=>((fCons (fun env=>getF env 2) (fCons (fun env=>getF env 3) (fCons (fun env=>getF env 4) (fCons (fun env=>getF env 7) fNil)))) env).bind m__law_ships_right)))) [s0,.F (.int c),.F (.int R),.F (.int C),.F (.int l),.un,.O (.L A),.O (.L B),s8]=some false:=
      (orF_v ((not_v (fB_v ((call_v rfl).trans lwn))).trans rfl)).trans ((not_v (fB_v ((call_v rfl).trans rgt))).trans rfl)
    have k2:borF [6,7] (orB (fB (op2 (isF true) (fun env=>((fCons (fun env=>getF env 2) (fCons (fun env=>getF env 3) (fCons (fun env=>getF env 4) (fCons (un1 listD (fun env=>getF env 6)) fNil)))) env).bind m_is_net) (fC (.bl true)))) (fB (op2 (isF true) (fun env=>((fCons (un1 listD (fun env=>getF env 7)) fNil) env).bind m_lie_apart) (fC (.bl true))))) [s0,.F (.int c),.F (.int R),.F (.int C),.F (.int l),.un,.O (.L A),.O (.L B),s8]=some false:=
      (orF_v (fB_v ((op2_v ((call_v rfl).trans isn) rfl).trans rfl))).trans (fB_v ((op2_v ((call_v rfl).trans lie) rfl).trans rfl))
    have k3:borF [6] (fB (op2 neF (fun env=>((fCons (fun env=>getF env 2) (fCons (fun env=>getF env 3) (fCons (fun env=>getF env 4) fNil))) env).bind m_least_net) (un1 lenD (fun env=>getF env 6)))) [s0,.F (.int c),.F (.int R),.F (.int C),.F (.int l),.un,.O (.L A),.O (.L B),s8]=some false:=
      fB_v ((op2_v ((call_v rfl).trans lst) (len_v rfl)).trans ((ne_v _ _).trans (by rw [lc];simp)))
    have k4:fB (op2 neF (fun env=>((fCons (fun env=>getF env 2) (fCons (fun env=>getF env 3) (fCons (fun env=>getF env 4) fNil))) env).bind m_net_of) (fun env=>getF env 8)) [s0,.F (.int c),.F (.int R),.F (.int C),.F (.int l),.un,.O (.L (A++[.tup [.int 0,.int 0]])),.O (.L (B++[.non])),.F (.tup [.lst A,.lst B])]=some false:=
      fB_v (neSame ((call_v rfl).trans hnet) rfl (Nat.le_trans (dep_tup (n:=2) fun d hd=>by
        rcases List.mem_cons.mp hd with rfl | hd
        · exact dpc
        · rw [List.mem_singleton.mp hd];exact dps) (by omega)) (by show (pl (.lst A)&&(pl (.lst B)&&true))=true;rw [plc,pls'];rfl))
    exact (seq_v ((ifE_v k1).trans rfl)).trans ((seq_v ((ifE_v k2).trans rfl)).trans ((seq_v ((ifE_v k3).trans rfl)).trans ((seq_v (set_v (d:=.tup [.lst A,.lst B]) rfl)).trans ((seq_v (app_v rfl rfl (by omega))).trans ((seq_v (app_v rfl rfl (by omega))).trans ((ifE_v k4).trans rfl))))))
theorem law_true (ns:List Int) (hl:ns.length≤63):m_law [.lst (ns.map .int)]=some (.bl true):=by
  obtain ⟨e2,g1,t1,t2,t3,t4,t5,t6,t7,t8,rfl⟩:=loop_all (t:=tgN 1) (body:=B_law_1 m__law_sizes m_net_of m__law_is_net m__law_ships_right m_is_net m_lie_apart m_least_net) (fun e=>∃ s1 s2 s3 s4 s5 s6 s7 s8,e=[.F (.lst (ns.map .int)),s1,s2,s3,s4,s5,s6,s7,s8]) ((0::ns.take 12).map .int) (startE 9 [.lst (ns.map .int)]) ⟨.un,.un,.un,.un,.un,.un,.un,.un,rfl⟩ fun d hd e hq_=>by
    obtain ⟨s1,s2,s3,s4,s5,s6,s7,s8,he⟩:=hq_
    subst he
    obtain ⟨c,_,rfl⟩:=List.mem_map.mp hd
    obtain ⟨t2,t3,t4,t5,t6,t7,t8,u⟩:=one (.F (.lst (ns.map .int))) c s2 s3 s4 s5 s6 s7 s8
    exact ⟨_,u,_,_,_,_,_,_,_,_,rfl⟩
  refine run_v ((seq_v ((for_v (itL_v ?_)).trans g1)).trans rfl)
  exact (addL_v (xs:=[.int 0]) (ys:=(ns.map .int).take 12) rfl (cut_v (m:=12) rfl rfl) (by simp;omega)).trans (by rw [← List.map_take];rfl)
end K22
namespace K22
open PySem PySem.Spec PyProof.Rows L2 Mi
abbrev pg:Program:=PySem.Challenge.pw_fleethide_k22_whole_nets_and_ships_apart
def st__law_stir:Stmt:=pg.main.body.getD 18 (.Pass ⟨0,0,0,0⟩)
def st__law_drawn:Stmt:=pg.main.body.getD 19 (.Pass ⟨0,0,0,0⟩)
def st__law_sizes:Stmt:=pg.main.body.getD 24 (.Pass ⟨0,0,0,0⟩)
def st_all_cells:Stmt:=pg.main.body.getD 4 (.Pass ⟨0,0,0,0⟩)
def st_net_cells:Stmt:=pg.main.body.getD 8 (.Pass ⟨0,0,0,0⟩)
def st_needs_ring:Stmt:=pg.main.body.getD 10 (.Pass ⟨0,0,0,0⟩)
def st_lot_of:Stmt:=pg.main.body.getD 12 (.Pass ⟨0,0,0,0⟩)
def st_ring_ships:Stmt:=pg.main.body.getD 11 (.Pass ⟨0,0,0,0⟩)
def st_apart_ships:Stmt:=pg.main.body.getD 9 (.Pass ⟨0,0,0,0⟩)
def st_net_of:Stmt:=pg.main.body.getD 7 (.Pass ⟨0,0,0,0⟩)
def st__law_runs:Stmt:=pg.main.body.getD 21 (.Pass ⟨0,0,0,0⟩)
def st__law_is_net:Stmt:=pg.main.body.getD 22 (.Pass ⟨0,0,0,0⟩)
def st__law_cells:Stmt:=pg.main.body.getD 20 (.Pass ⟨0,0,0,0⟩)
def st__law_apart:Stmt:=pg.main.body.getD 23 (.Pass ⟨0,0,0,0⟩)
def st__law_ships_right:Stmt:=pg.main.body.getD 25 (.Pass ⟨0,0,0,0⟩)
def st_is_tuple_of:Stmt:=pg.main.body.getD 2 (.Pass ⟨0,0,0,0⟩)
def st_is_whole:Stmt:=pg.main.body.getD 1 (.Pass ⟨0,0,0,0⟩)
def st_is_cell:Stmt:=pg.main.body.getD 3 (.Pass ⟨0,0,0,0⟩)
def st_cells_of:Stmt:=pg.main.body.getD 5 (.Pass ⟨0,0,0,0⟩)
def st_bodies_of:Stmt:=pg.main.body.getD 14 (.Pass ⟨0,0,0,0⟩)
def st_is_net:Stmt:=pg.main.body.getD 13 (.Pass ⟨0,0,0,0⟩)
def st_lie_apart:Stmt:=pg.main.body.getD 15 (.Pass ⟨0,0,0,0⟩)
def st_least_net:Stmt:=pg.main.body.getD 16 (.Pass ⟨0,0,0,0⟩)
def st_law:Stmt:=pg.main.body.getD 26 (.Pass ⟨0,0,0,0⟩)
structure Tx (K:Fg) (mg:Str→Option Value):Prop where
  z_all:mg "all"=none
  z_any:mg "any"=none
  z_bool:mg "bool"=none
  z_dict:mg "dict"=none
  z_int:mg "int"=none
  z_isinstance:mg "isinstance"=none
  z_len:mg "len"=none
  z_list:mg "list"=none
  z_min:mg "min"=none
  z_range:mg "range"=none
  z_set:mg "set"=none
  z_sorted:mg "sorted"=none
  z_tuple:mg "tuple"=none
section
variable {P:Program} {w:World} {K:Fg} {mg:Str→Option Value} {base:Heap}
theorem sc__law_stir:FnScope [Str.ofString "cell",Str.ofString "k",Str.ofString "number"] [Str.ofString "cell",Str.ofString "k"] (defScope st__law_stir):=⟨rfl,rfl,rfl,by decide +kernel,rfl,by decide +kernel,by decide +kernel⟩
theorem ok__law_stir {f:Addr} {fd:FuncData} (F:Fun K "_law_stir" "_law_stir" st__law_stir f fd) (T:Tx K mg) :FnOk P w K mg base CX0 1 f fd [Str.ofString "cell",Str.ofString "k"] (spD K 2 .cl m__law_stir):=by
  refine okD F sc__law_stir (fb:=F__law_stir ) (fun cdv A outer s H E hr=>?_) (fun ds d _ e=>e)
  have hN:=sc__law_stir.nd
  exact (s_cons (s_set 2 (m_mul (m_add (m_add (m_mod (m_var 0) (m_pow m_int m_int)) (m_mul m_int (m_var 1))) m_int) m_int) hN) (s_cons (s_set 2 (m_mod (m_var 2) m_int) hN) (s_one (s_ret (m_fdiv (m_mod (m_pow (m_add (m_pow (m_var 2) m_int) (m_mul m_int (m_var 1))) m_int) m_int) m_int)))))
theorem sc__law_drawn:FnScope [Str.ofString "cell",Str.ofString "sizes",Str.ofString "found",Str.ofString "rest",Str.ofString "k"] [Str.ofString "cell",Str.ofString "sizes"] (defScope st__law_drawn):=⟨rfl,rfl,rfl,by decide +kernel,rfl,by decide +kernel,by decide +kernel⟩
theorem ok__law_drawn {f:Addr} {fd:FuncData} (F:Fun K "_law_drawn" "_law_drawn" st__law_drawn f fd) (T:Tx K mg) (k__law_stir:∀ j,1≤j→Cal P w K mg base j "_law_stir" 2 .cl m__law_stir):FnOk P w K mg base CX0 2 f fd [Str.ofString "cell",Str.ofString "sizes"] (spD K 2 .nw m__law_drawn):=by
  refine okD F sc__law_drawn (fb:=F__law_drawn m__law_stir) (fun cdv A outer s H E hr=>?_) (fun ds d _ e=>e)
  have hN:=sc__law_drawn.nd
  have K__law_stir:=k__law_stir 1 (by decide)
  exact (s_cons (s_setO 2 (m_lst l_nil) hN) (s_cons (s_set 3 (m_var 0) hN) (s_cons (s_for PassesOwn.never rfl (i_range1 T.z_range (m_len T.z_len (m_var 1))) (g_name 4 hN) (s_one (s_if (b_w (w_or (b_lt (m_var 0) (m_pow m_int m_int)) (w_or1 (b_eq hr (m_var 3) m_int)))) (s_one (s_app 2 (m_mod (m_call K__law_stir hr (l_cons (m_var 0) (l_cons (m_var 4) l_nil))) (m_idx (m_var 1) (m_var 4))))) (s_cons (s_app 2 (m_mod (m_var 3) (m_idx (m_var 1) (m_var 4)))) (s_one (s_set 3 (m_fdiv (m_var 3) (m_idx (m_var 1) (m_var 4))) hN)))))) (s_one (s_retO 2)))))
theorem sc__law_sizes:FnScope [Str.ofString "cell",Str.ofString "way",Str.ofString "rows",Str.ofString "columns",Str.ofString "length",Str.ofString "times",Str.ofString "more",Str.ofString "high",Str.ofString "wide"] [Str.ofString "cell"] (defScope st__law_sizes):=⟨rfl,rfl,rfl,by decide +kernel,rfl,by decide +kernel,by decide +kernel⟩
theorem ok__law_sizes {f:Addr} {fd:FuncData} (F:Fun K "_law_sizes" "_law_sizes" st__law_sizes f fd) (T:Tx K mg) (k__law_drawn:∀ j,2≤j→Cal P w K mg base j "_law_drawn" 2 .nw m__law_drawn):FnOk P w K mg base CX0 3 f fd [Str.ofString "cell"] (spD K 1 .cl m__law_sizes):=by
  refine okD F sc__law_sizes (fb:=F__law_sizes m__law_drawn) (fun cdv A outer s H E hr=>?_) (fun ds d _ e=>e)
  have hN:=sc__law_sizes.nd
  have K__law_drawn:=k__law_drawn 2 (by decide)
  exact (s_cons (s_unL rfl (m_cl (m_call K__law_drawn hr (l_cons (m_var 0) (l_cons (m_cl (m_lst (l_cons m_int (l_cons m_int (l_cons m_int (l_cons m_int (l_cons m_int (l_cons m_int l_nil)))))))) l_nil)))) (gs_cons 1 hN (gs_cons 2 hN (gs_cons 3 hN (gs_cons 4 hN (gs_cons 5 hN (gs_cons 6 hN gs_nil))))))) (s_cons (s_if (b_lt (m_var 1) m_int) (s_one (s_ret (m_tup (l_cons (m_add m_int (m_mod (m_var 2) m_int)) (l_cons (m_add m_int (m_mod (m_var 3) m_int)) (l_cons (m_add m_int (m_mod (m_var 4) m_int)) l_nil)))))) s_nil) (s_cons (s_if (b_eq hr (m_var 1) m_int) (s_one (s_ret (m_tup (l_cons (m_add m_int (m_var 2)) (l_cons (m_add m_int (m_var 3)) (l_cons (m_add m_int (m_var 4)) l_nil)))))) s_nil) (s_cons (s_set 4 (m_add m_int (m_mod (m_var 4) m_int)) hN) (s_cons (s_if (b_eq hr (m_var 1) m_int) (s_one (s_ret (m_tup (l_cons (m_add m_int (m_var 2)) (l_cons (m_add m_int (m_var 3)) (l_cons (m_var 4) l_nil)))))) s_nil) (s_cons (s_set 7 (m_min T.z_min rfl m_int (m_add (m_mul (m_var 4) (m_add m_int (m_mod (m_var 5) m_int))) (m_mod (m_var 2) (m_var 4)))) hN) (s_cons (s_set 8 (m_min T.z_min rfl m_int (m_add (m_mul (m_var 4) (m_add m_int (m_mod (m_var 6) m_int))) (m_mod (m_var 3) (m_var 4)))) hN) (s_one (s_ret (m_tup (l_cons (m_var 7) (l_cons (m_idx (m_lst (l_cons (m_var 8) (l_cons (m_add m_int (m_mod (m_var 3) (m_var 4))) l_nil))) (m_sub (m_var 1) m_int)) (l_cons (m_var 4) l_nil)))))))))))))
theorem sc_all_cells:FnScope [Str.ofString "sheet",Str.ofString "rows",Str.ofString "columns"] [Str.ofString "sheet"] (defScope st_all_cells):=⟨rfl,rfl,rfl,by decide +kernel,rfl,by decide +kernel,by decide +kernel⟩
theorem ok_all_cells {f:Addr} {fd:FuncData} (F:Fun K "all_cells" "all_cells" st_all_cells f fd) (T:Tx K mg) :FnOk P w K mg base CX0 1 f fd [Str.ofString "sheet"] (spD K 1 .nw m_all_cells):=by
  refine okD F sc_all_cells (fb:=F_all_cells ) (fun cdv A outer s H E hr=>?_) (fun ds d _ e=>e)
  have hN:=sc_all_cells.nd
  exact (s_cons (s_un rfl (m_var 0) (gs_cons 1 hN (gs_cons 2 hN gs_nil))) (s_one (s_ret (m_comp (Nc:=[Str.ofString "row",Str.ofString "column",Str.ofString "columns"]) (own:=[Str.ofString "row",Str.ofString "column"]) (caps:=[2]) (tgN_ok 0) rfl (i_range1 T.z_range (m_var 1)) rfl rfl (fun _ _ _ _ _ _=>have hN:=(by decide +kernel:List.Nodup ([Str.ofString "row",Str.ofString "column",Str.ofString "columns"]:List Str));(blk_more (fun _ _ z=>z) rfl (g_name 0 hN) ts_nil (i_range1 T.z_range (m_var 2)) (tgN_ok 1) (blk_last (fun _ _ z=>z) (g_name 1 hN) ts_nil (m_tup (l_cons (m_var 0) (l_cons (m_var 1) l_nil))))))))))
theorem sc_net_cells:FnScope [Str.ofString "rows",Str.ofString "columns",Str.ofString "length",Str.ofString "down",Str.ofString "along",Str.ofString "cells"] [Str.ofString "rows",Str.ofString "columns",Str.ofString "length"] (defScope st_net_cells):=⟨rfl,rfl,rfl,by decide +kernel,rfl,by decide +kernel,by decide +kernel⟩
theorem ok_net_cells {f:Addr} {fd:FuncData} (F:Fun K "net_cells" "net_cells" st_net_cells f fd) (T:Tx K mg) (k_all_cells:∀ j,1≤j→Cal P w K mg base j "all_cells" 1 .nw m_all_cells):FnOk P w K mg base CX0 2 f fd [Str.ofString "rows",Str.ofString "columns",Str.ofString "length"] (spD K 3 .nw m_net_cells):=by
  refine okD F sc_net_cells (fb:=F_net_cells m_all_cells) (fun cdv A outer s H E hr=>?_) (fun ds d _ e=>e)
  have hN:=sc_net_cells.nd
  have K_all_cells:=k_all_cells 1 (by decide)
  exact (s_cons (s_set 3 (m_ite (b_le (m_var 2) (m_var 0)) m_int m_int) hN) (s_cons (s_set 4 (m_ite (b_le (m_var 2) (m_var 1)) m_int m_int) hN) (s_cons (s_set 5 (m_cl (m_call K_all_cells hr (l_cons (m_tup (l_cons (m_var 0) (l_cons (m_var 1) l_nil))) l_nil))) hN) (s_one (s_ret (m_comp (Nc:=[Str.ofString "row",Str.ofString "column",Str.ofString "down",Str.ofString "along",Str.ofString "length"]) (own:=[Str.ofString "row",Str.ofString "column"]) (caps:=[3,4,2]) (tgT_ok [0,1]) rfl (i_list (m_var 5)) rfl rfl (fun _ _ _ _ _ _=>have hN:=(by decide +kernel:List.Nodup ([Str.ofString "row",Str.ofString "column",Str.ofString "down",Str.ofString "along",Str.ofString "length"]:List Str));(blk_last (fun _ _ z=>z) (g_tup rfl (gs_cons 0 hN (gs_cons 1 hN gs_nil))) (ts_one (fun _ _ z=>z) (b_eq hr (m_mod (m_add (m_mul (m_var 0) (m_var 2)) (m_mul (m_var 1) (m_var 3))) (m_var 4)) (m_sub (m_var 4) m_int))) (m_tup (l_cons (m_var 0) (l_cons (m_var 1) l_nil)))))))))))
theorem sc_needs_ring:FnScope [Str.ofString "rows",Str.ofString "columns",Str.ofString "length"] [Str.ofString "rows",Str.ofString "columns",Str.ofString "length"] (defScope st_needs_ring):=⟨rfl,rfl,rfl,by decide +kernel,rfl,by decide +kernel,by decide +kernel⟩
theorem ok_needs_ring {f:Addr} {fd:FuncData} (F:Fun K "needs_ring" "needs_ring" st_needs_ring f fd) (T:Tx K mg) :FnOk P w K mg base CX0 1 f fd [Str.ofString "rows",Str.ofString "columns",Str.ofString "length"] (spD K 3 .cl m_needs_ring):=by
  refine okD F sc_needs_ring (fb:=F_needs_ring ) (fun cdv A outer s H E hr=>?_) (fun ds d _ e=>e)
  have hN:=sc_needs_ring.nd
  exact (s_one (s_ret (m_and (m_le (m_var 2) (m_min T.z_min rfl (m_var 0) (m_var 1))) (m_one (m_gt (m_add (m_mod (m_var 0) (m_var 2)) (m_mod (m_var 1) (m_var 2))) (m_var 2))))))
theorem sc_lot_of:FnScope [Str.ofString "corner",Str.ofString "size",Str.ofString "way",Str.ofString "length",Str.ofString "top",Str.ofString "left",Str.ofString "high",Str.ofString "wide",Str.ofString "places"] [Str.ofString "corner",Str.ofString "size",Str.ofString "way",Str.ofString "length"] (defScope st_lot_of):=⟨rfl,rfl,rfl,by decide +kernel,rfl,by decide +kernel,by decide +kernel⟩
theorem ok_lot_of {f:Addr} {fd:FuncData} (F:Fun K "lot_of" "lot_of" st_lot_of f fd) (T:Tx K mg) :FnOk P w K mg base CX0 1 f fd [Str.ofString "corner",Str.ofString "size",Str.ofString "way",Str.ofString "length"] (spD K 4 .nw m_lot_of):=by
  refine okD F sc_lot_of (fb:=F_lot_of ) (fun cdv A outer s H E hr=>?_) (fun ds d _ e=>e)
  have hN:=sc_lot_of.nd
  exact (s_cons (s_un rfl (m_var 0) (gs_cons 4 hN (gs_cons 5 hN gs_nil))) (s_cons (s_un rfl (m_var 1) (gs_cons 6 hN (gs_cons 7 hN gs_nil))) (s_cons (s_if (b_eq hr (m_var 2) m_str) (s_one (s_setC 8 (c_comp (Nc:=[Str.ofString "row",Str.ofString "column",Str.ofString "wide",Str.ofString "length"]) (own:=[Str.ofString "row",Str.ofString "column"]) (caps:=[7,3]) (tgN_ok 0) rfl (i_range1 T.z_range (m_var 6)) rfl rfl (fun _ _ _ _ _ _=>have hN:=(by decide +kernel:List.Nodup ([Str.ofString "row",Str.ofString "column",Str.ofString "wide",Str.ofString "length"]:List Str));(blk_more (fun _ _ z=>z) rfl (g_name 0 hN) ts_nil (i_range3 T.z_range m_int (m_add (m_sub (m_var 2) (m_var 3)) m_int) (m_var 3)) (tgN_ok 1) (blk_last (fun _ _ z=>z) (g_name 1 hN) ts_nil (m_tup (l_cons (m_var 0) (l_cons (m_var 1) l_nil))))))) hN)) (s_one (s_setC 8 (c_comp (Nc:=[Str.ofString "row",Str.ofString "column",Str.ofString "wide"]) (own:=[Str.ofString "row",Str.ofString "column"]) (caps:=[7]) (tgN_ok 0) rfl (i_range3 T.z_range m_int (m_add (m_sub (m_var 6) (m_var 3)) m_int) (m_var 3)) rfl rfl (fun _ _ _ _ _ _=>have hN:=(by decide +kernel:List.Nodup ([Str.ofString "row",Str.ofString "column",Str.ofString "wide"]:List Str));(blk_more (fun _ _ z=>z) rfl (g_name 0 hN) ts_nil (i_range1 T.z_range (m_var 2)) (tgN_ok 1) (blk_last (fun _ _ z=>z) (g_name 1 hN) ts_nil (m_tup (l_cons (m_var 0) (l_cons (m_var 1) l_nil))))))) hN))) (s_one (s_ret (m_comp (Nc:=[Str.ofString "row",Str.ofString "column",Str.ofString "top",Str.ofString "left",Str.ofString "way",Str.ofString "length"]) (own:=[Str.ofString "row",Str.ofString "column"]) (caps:=[4,5,2,3]) (tgT_ok [0,1]) rfl (i_list (m_var 8)) rfl rfl (fun _ _ _ _ _ _=>have hN:=(by decide +kernel:List.Nodup ([Str.ofString "row",Str.ofString "column",Str.ofString "top",Str.ofString "left",Str.ofString "way",Str.ofString "length"]:List Str));(blk_last (fun _ _ z=>z) (g_tup rfl (gs_cons 0 hN (gs_cons 1 hN gs_nil))) ts_nil (m_tup (l_cons (m_add (m_var 2) (m_var 0)) (l_cons (m_add (m_var 3) (m_var 1)) (l_cons (m_var 4) (l_cons (m_var 5) l_nil)))))))))))))
theorem sc_ring_ships:FnScope [Str.ofString "rows",Str.ofString "columns",Str.ofString "length",Str.ofString "high",Str.ofString "wide",Str.ofString "top",Str.ofString "left",Str.ofString "ships"] [Str.ofString "rows",Str.ofString "columns",Str.ofString "length"] (defScope st_ring_ships):=⟨rfl,rfl,rfl,by decide +kernel,rfl,by decide +kernel,by decide +kernel⟩
theorem ok_ring_ships {f:Addr} {fd:FuncData} (F:Fun K "ring_ships" "ring_ships" st_ring_ships f fd) (T:Tx K mg) (k_lot_of:∀ j,1≤j→Cal P w K mg base j "lot_of" 4 .nw m_lot_of):FnOk P w K mg base CX0 2 f fd [Str.ofString "rows",Str.ofString "columns",Str.ofString "length"] (spD K 3 .nw m_ring_ships):=by
  refine okD F sc_ring_ships (fb:=F_ring_ships m_lot_of) (fun cdv A outer s H E hr=>?_) (fun ds d _ e=>e)
  have hN:=sc_ring_ships.nd
  have K_lot_of:=k_lot_of 1 (by decide)
  exact (s_cons (s_par 3 4 rfl hN (l_cons (m_mod (m_var 0) (m_var 2)) (l_cons (m_mod (m_var 1) (m_var 2)) l_nil))) (s_cons (s_par 5 6 rfl hN (l_cons (m_sub (m_sub (m_var 0) (m_var 2)) (m_var 3)) (l_cons (m_sub (m_sub (m_var 1) (m_var 2)) (m_var 4)) l_nil))) (s_cons (s_setO 7 (m_call K_lot_of hr (l_cons (m_tup (l_cons m_int (l_cons m_int l_nil))) (l_cons (m_tup (l_cons (m_var 5) (l_cons (m_var 1) l_nil))) (l_cons m_str (l_cons (m_var 2) l_nil))))) hN) (s_cons (s_aug 7 (m_call K_lot_of hr (l_cons (m_tup (l_cons (m_var 5) (l_cons m_int l_nil))) (l_cons (m_tup (l_cons (m_add (m_var 2) (m_var 3)) (l_cons (m_var 6) l_nil))) (l_cons m_str (l_cons (m_var 2) l_nil))))) hN) (s_cons (s_aug 7 (m_call K_lot_of hr (l_cons (m_tup (l_cons (m_var 5) (l_cons (m_var 6) l_nil))) (l_cons (m_tup (l_cons (m_var 3) (l_cons (m_var 2) l_nil))) (l_cons m_str (l_cons (m_var 2) l_nil))))) hN) (s_cons (s_aug 7 (m_call K_lot_of hr (l_cons (m_tup (l_cons (m_var 5) (l_cons (m_add (m_var 6) (m_var 2)) l_nil))) (l_cons (m_tup (l_cons (m_var 2) (l_cons (m_var 4) l_nil))) (l_cons m_str (l_cons (m_var 2) l_nil))))) hN) (s_cons (s_aug 7 (m_call K_lot_of hr (l_cons (m_tup (l_cons (m_add (m_var 5) (m_var 2)) (l_cons (m_add (m_var 6) (m_var 4)) l_nil))) (l_cons (m_tup (l_cons (m_var 3) (l_cons (m_var 2) l_nil))) (l_cons m_str (l_cons (m_var 2) l_nil))))) hN) (s_cons (s_aug 7 (m_call K_lot_of hr (l_cons (m_tup (l_cons (m_add (m_var 5) (m_var 3)) (l_cons (m_var 6) l_nil))) (l_cons (m_tup (l_cons (m_var 2) (l_cons (m_var 4) l_nil))) (l_cons m_str (l_cons (m_var 2) l_nil))))) hN) (s_one (s_retO 7))))))))))
theorem sc_apart_ships:FnScope [Str.ofString "rows",Str.ofString "columns",Str.ofString "length",Str.ofString "wide",Str.ofString "along"] [Str.ofString "rows",Str.ofString "columns",Str.ofString "length"] (defScope st_apart_ships):=⟨rfl,rfl,rfl,by decide +kernel,rfl,by decide +kernel,by decide +kernel⟩
theorem ok_apart_ships {f:Addr} {fd:FuncData} (F:Fun K "apart_ships" "apart_ships" st_apart_ships f fd) (T:Tx K mg) (k_needs_ring:∀ j,1≤j→Cal P w K mg base j "needs_ring" 3 .cl m_needs_ring) (k_ring_ships:∀ j,2≤j→Cal P w K mg base j "ring_ships" 3 .nw m_ring_ships) (k_lot_of:∀ j,1≤j→Cal P w K mg base j "lot_of" 4 .nw m_lot_of):FnOk P w K mg base CX0 3 f fd [Str.ofString "rows",Str.ofString "columns",Str.ofString "length"] (spD K 3 .nw m_apart_ships):=by
  refine okD F sc_apart_ships (fb:=F_apart_ships m_needs_ring m_ring_ships m_lot_of) (fun cdv A outer s H E hr=>?_) (fun ds d _ e=>e)
  have hN:=sc_apart_ships.nd
  have K_needs_ring:=k_needs_ring 2 (by decide)
  have K_ring_ships:=k_ring_ships 2 (by decide)
  have K_lot_of:=k_lot_of 2 (by decide)
  exact (s_cons (s_if (b_val (m_call K_needs_ring hr (l_cons (m_var 0) (l_cons (m_var 1) (l_cons (m_var 2) l_nil))))) (s_one (s_ret (m_call K_ring_ships hr (l_cons (m_var 0) (l_cons (m_var 1) (l_cons (m_var 2) l_nil)))))) s_nil) (s_cons (s_set 3 (m_sub (m_var 1) (m_mod (m_var 1) (m_var 2))) hN) (s_cons (s_set 4 (m_cl (m_call K_lot_of hr (l_cons (m_tup (l_cons m_int (l_cons m_int l_nil))) (l_cons (m_tup (l_cons (m_var 0) (l_cons (m_var 3) l_nil))) (l_cons m_str (l_cons (m_var 2) l_nil)))))) hN) (s_one (s_ret (m_addL (m_var 4) (m_call K_lot_of hr (l_cons (m_tup (l_cons m_int (l_cons (m_var 3) l_nil))) (l_cons (m_tup (l_cons (m_var 0) (l_cons (m_sub (m_var 1) (m_var 3)) l_nil))) (l_cons m_str (l_cons (m_var 2) l_nil)))))))))))
theorem sc_net_of:FnScope [Str.ofString "rows",Str.ofString "columns",Str.ofString "length"] [Str.ofString "rows",Str.ofString "columns",Str.ofString "length"] (defScope st_net_of):=⟨rfl,rfl,rfl,by decide +kernel,rfl,by decide +kernel,by decide +kernel⟩
theorem ok_net_of {f:Addr} {fd:FuncData} (F:Fun K "net_of" "net_of" st_net_of f fd) (T:Tx K mg) (k_net_cells:∀ j,2≤j→Cal P w K mg base j "net_cells" 3 .nw m_net_cells) (k_apart_ships:∀ j,3≤j→Cal P w K mg base j "apart_ships" 3 .nw m_apart_ships):FnOk P w K mg base CX0 4 f fd [Str.ofString "rows",Str.ofString "columns",Str.ofString "length"] (spD K 3 .n2 m_net_of):=by
  refine okD F sc_net_of (fb:=F_net_of m_net_cells m_apart_ships) (fun cdv A outer s H E hr=>?_) (fun ds d _ e=>e)
  have hN:=sc_net_of.nd
  have K_net_cells:=k_net_cells 3 (by decide)
  have K_apart_ships:=k_apart_ships 3 (by decide)
  exact (s_one (s_ret (m_tup2 (m_call K_net_cells hr (l_cons (m_var 0) (l_cons (m_var 1) (l_cons (m_var 2) l_nil)))) (m_sortW T.z_sorted (m_call K_apart_ships hr (l_cons (m_var 0) (l_cons (m_var 1) (l_cons (m_var 2) l_nil))))))))
theorem sc__law_runs:FnScope [Str.ofString "rows",Str.ofString "columns",Str.ofString "length",Str.ofString "found",Str.ofString "row",Str.ofString "column"] [Str.ofString "rows",Str.ofString "columns",Str.ofString "length"] (defScope st__law_runs):=⟨rfl,rfl,rfl,by decide +kernel,rfl,by decide +kernel,by decide +kernel⟩
theorem ok__law_runs {f:Addr} {fd:FuncData} (F:Fun K "_law_runs" "_law_runs" st__law_runs f fd) (T:Tx K mg) :FnOk P w K mg base CX0 1 f fd [Str.ofString "rows",Str.ofString "columns",Str.ofString "length"] (spD K 3 .nw m__law_runs):=by
  refine okD F sc__law_runs (fb:=F__law_runs ) (fun cdv A outer s H E hr=>?_) (fun ds d _ e=>e)
  have hN:=sc__law_runs.nd
  exact (s_cons (s_setO 3 (m_lst l_nil) hN) (s_cons (s_for PassesOwn.never rfl (i_range1 T.z_range (m_var 0)) (g_name 4 hN) (s_one (s_for PassesOwn.never rfl (i_range1 T.z_range (m_add (m_sub (m_var 1) (m_var 2)) m_int)) (g_name 5 hN) (s_one (s_app 3 (m_cl (m_comp (Nc:=[Str.ofString "k",Str.ofString "row",Str.ofString "column"]) (own:=[Str.ofString "k"]) (caps:=[4,5]) (tgN_ok 0) rfl (i_range1 T.z_range (m_var 2)) rfl rfl (fun _ _ _ _ _ _=>have hN:=(by decide +kernel:List.Nodup ([Str.ofString "k",Str.ofString "row",Str.ofString "column"]:List Str));(blk_last (fun _ _ z=>z) (g_name 0 hN) ts_nil (m_tup (l_cons (m_var 1) (l_cons (m_add (m_var 2) (m_var 0)) l_nil)))))))))))) (s_cons (s_for PassesOwn.never rfl (i_range1 T.z_range (m_mul (m_add (m_sub (m_var 0) (m_var 2)) m_int) (m_intc T.z_int (m_gt (m_var 2) m_int)))) (g_name 4 hN) (s_one (s_for PassesOwn.never rfl (i_range1 T.z_range (m_var 1)) (g_name 5 hN) (s_one (s_app 3 (m_cl (m_comp (Nc:=[Str.ofString "k",Str.ofString "row",Str.ofString "column"]) (own:=[Str.ofString "k"]) (caps:=[4,5]) (tgN_ok 0) rfl (i_range1 T.z_range (m_var 2)) rfl rfl (fun _ _ _ _ _ _=>have hN:=(by decide +kernel:List.Nodup ([Str.ofString "k",Str.ofString "row",Str.ofString "column"]:List Str));(blk_last (fun _ _ z=>z) (g_name 0 hN) ts_nil (m_tup (l_cons (m_add (m_var 1) (m_var 0)) (l_cons (m_var 2) l_nil)))))))))))) (s_one (s_retO 3)))))
theorem sc__law_is_net:FnScope [Str.ofString "rows",Str.ofString "columns",Str.ofString "length",Str.ofString "cells",Str.ofString "there",Str.ofString "run"] [Str.ofString "rows",Str.ofString "columns",Str.ofString "length",Str.ofString "cells"] (defScope st__law_is_net):=⟨rfl,rfl,rfl,by decide +kernel,rfl,by decide +kernel,by decide +kernel⟩
theorem ok__law_is_net {f:Addr} {fd:FuncData} (F:Fun K "_law_is_net" "_law_is_net" st__law_is_net f fd) (T:Tx K mg) (k__law_runs:∀ j,1≤j→Cal P w K mg base j "_law_runs" 3 .nw m__law_runs):FnOk P w K mg base CX0 2 f fd [Str.ofString "rows",Str.ofString "columns",Str.ofString "length",Str.ofString "cells"] (spD K 4 .cl m__law_is_net):=by
  refine okD F sc__law_is_net (fb:=F__law_is_net m__law_runs) (fun cdv A outer s H E hr=>?_) (fun ds d _ e=>e)
  have hN:=sc__law_is_net.nd
  have K__law_runs:=k__law_runs 1 (by decide)
  exact (s_cons (s_set 4 (m_dictQ T.z_dict rfl hr (m_comp (Nc:=[Str.ofString "cell"]) (own:=[Str.ofString "cell"]) (caps:=[]) (tgN_ok 0) rfl (i_list (m_var 3)) rfl rfl (fun _ _ _ _ _ _=>have hN:=(by decide +kernel:List.Nodup ([Str.ofString "cell"]:List Str));(blk_last (fun _ _ z=>z) (g_name 0 hN) ts_nil (m_tup (l_cons (m_var 0) (l_cons m_bl l_nil))))))) hN) (s_cons (s_if (b_ne hr (m_lenQ T.z_len (m_var 4)) (m_len T.z_len (m_var 3))) (s_one (s_ret m_bl)) s_nil) (s_cons (s_if (b_ne hr (m_comp (Nc:=[Str.ofString "cell",Str.ofString "rows",Str.ofString "columns"]) (own:=[Str.ofString "cell"]) (caps:=[0,1]) (tgN_ok 0) rfl (i_list (m_var 3)) rfl rfl (fun _ _ _ _ _ _=>have hN:=(by decide +kernel:List.Nodup ([Str.ofString "cell",Str.ofString "rows",Str.ofString "columns"]:List Str));(blk_last (fun _ _ z=>z) (g_name 0 hN) (ts_one (fun _ _ z=>z) (b_not (b_w (w_and (b_chain op_le op_lt d_le d_lt m_int (m_idx (m_var 0) m_int) (m_var 1)) (w_and1 (b_chain op_le op_lt d_le d_lt m_int (m_idx (m_var 0) m_int) (m_var 2))))))) (m_var 0)))) (m_lst l_nil)) (s_one (s_ret m_bl)) s_nil) (s_cons (s_for PassesOwn.never rfl (i_list (m_cl (m_call K__law_runs hr (l_cons (m_var 0) (l_cons (m_var 1) (l_cons (m_var 2) l_nil)))))) (g_name 5 hN) (s_one (s_if (b_eq hr (m_comp (Nc:=[Str.ofString "cell",Str.ofString "there"]) (own:=[Str.ofString "cell"]) (caps:=[4]) (tgN_ok 0) rfl (i_list (m_var 5)) rfl rfl (fun _ _ _ _ _ _=>have hN:=(by decide +kernel:List.Nodup ([Str.ofString "cell",Str.ofString "there"]:List Str));(blk_last (fun _ _ z=>z) (g_name 0 hN) (ts_one (fun _ _ z=>z) (b_inQ hr (m_var 0) (m_var 1))) (m_var 0)))) (m_lst l_nil)) (s_one (s_ret m_bl)) s_nil))) (s_one (s_ret m_bl))))))
theorem sc__law_cells:FnScope [Str.ofString "ship",Str.ofString "row",Str.ofString "column",Str.ofString "way",Str.ofString "length",Str.ofString "found",Str.ofString "k"] [Str.ofString "ship"] (defScope st__law_cells):=⟨rfl,rfl,rfl,by decide +kernel,rfl,by decide +kernel,by decide +kernel⟩
theorem ok__law_cells {f:Addr} {fd:FuncData} (F:Fun K "_law_cells" "_law_cells" st__law_cells f fd) (T:Tx K mg) :FnOk P w K mg base CX0 1 f fd [Str.ofString "ship"] (spD K 1 .nw m__law_cells):=by
  refine okD F sc__law_cells (fb:=F__law_cells ) (fun cdv A outer s H E hr=>?_) (fun ds d _ e=>e)
  have hN:=sc__law_cells.nd
  exact (s_cons (s_un rfl (m_var 0) (gs_cons 1 hN (gs_cons 2 hN (gs_cons 3 hN (gs_cons 4 hN gs_nil))))) (s_cons (s_setO 5 (m_lst l_nil) hN) (s_cons (s_for PassesOwn.never rfl (i_range1 T.z_range (m_var 4)) (g_name 6 hN) (s_one (s_app 5 (m_tup (l_cons (m_add (m_var 1) (m_mul (m_var 6) (m_intc T.z_int (m_eq hr (m_var 3) m_str)))) (l_cons (m_add (m_var 2) (m_mul (m_var 6) (m_intc T.z_int (m_eq hr (m_var 3) m_str)))) l_nil)))))) (s_one (s_retO 5)))))
theorem sc__law_apart:FnScope [Str.ofString "ships",Str.ofString "there",Str.ofString "ship",Str.ofString "cell"] [Str.ofString "ships"] (defScope st__law_apart):=⟨rfl,rfl,rfl,by decide +kernel,rfl,by decide +kernel,by decide +kernel⟩
theorem ok__law_apart {f:Addr} {fd:FuncData} (F:Fun K "_law_apart" "_law_apart" st__law_apart f fd) (T:Tx K mg) (k__law_cells:∀ j,1≤j→Cal P w K mg base j "_law_cells" 1 .nw m__law_cells):FnOk P w K mg base CX0 2 f fd [Str.ofString "ships"] (spD K 1 .cl m__law_apart):=by
  refine okD F sc__law_apart (fb:=F__law_apart m__law_cells) (fun cdv A outer s H E hr=>?_) (fun ds d _ e=>e)
  have hN:=sc__law_apart.nd
  have K__law_cells:=k__law_cells 1 (by decide)
  exact (s_cons (s_setQ 1 m_dnew hN) (s_cons (s_for PassesOwn.never rfl (i_list (m_var 0)) (g_name 2 hN) (s_one (s_for PassesOwn.never rfl (i_list (m_cl (m_call K__law_cells hr (l_cons (m_var 2) l_nil)))) (g_name 3 hN) (s_cons (s_if (b_inQ hr (m_var 3) (m_pv 1)) (s_one (s_ret m_bl)) s_nil) (s_one (s_putV 1 hr (m_var 3))))))) (s_one (s_ret m_bl))))
theorem sc__law_ships_right:FnScope [Str.ofString "rows",Str.ofString "columns",Str.ofString "length",Str.ofString "ships",Str.ofString "ship",Str.ofString "row",Str.ofString "column"] [Str.ofString "rows",Str.ofString "columns",Str.ofString "length",Str.ofString "ships"] (defScope st__law_ships_right):=⟨rfl,rfl,rfl,by decide +kernel,rfl,by decide +kernel,by decide +kernel⟩
theorem ok__law_ships_right {f:Addr} {fd:FuncData} (F:Fun K "_law_ships_right" "_law_ships_right" st__law_ships_right f fd) (T:Tx K mg) (k__law_cells:∀ j,1≤j→Cal P w K mg base j "_law_cells" 1 .nw m__law_cells) (k__law_apart:∀ j,2≤j→Cal P w K mg base j "_law_apart" 1 .cl m__law_apart):FnOk P w K mg base CX0 3 f fd [Str.ofString "rows",Str.ofString "columns",Str.ofString "length",Str.ofString "ships"] (spD K 4 .cl m__law_ships_right):=by
  refine okD F sc__law_ships_right (fb:=F__law_ships_right m__law_cells m__law_apart) (fun cdv A outer s H E hr=>?_) (fun ds d _ e=>e)
  have hN:=sc__law_ships_right.nd
  have K__law_cells:=k__law_cells 2 (by decide)
  have K__law_apart:=k__law_apart 2 (by decide)
  exact (s_cons (s_for PassesOwn.never rfl (i_list (m_var 3)) (g_name 4 hN) (s_cons (s_if (b_w (w_or (b_not (b_val (m_isi .tuple T.z_isinstance T.z_tuple (m_var 4)))) (w_or (b_ne hr (m_len T.z_len (m_var 4)) m_int) (w_or (b_ne hr (m_idx (m_var 4) m_int) (m_var 2)) (w_or1 (b_nin hr (m_idx (m_var 4) m_int) (m_tup (l_cons m_str (l_cons m_str l_nil))))))))) (s_one (s_ret m_bl)) s_nil) (s_cons (s_if (b_w (w_and (b_eq hr (m_var 2) m_int) (w_and1 (b_eq hr (m_idx (m_var 4) m_int) m_str)))) (s_one (s_ret m_bl)) s_nil) (s_one (s_for PassesOwn.never rfl (i_list (m_cl (m_call K__law_cells hr (l_cons (m_var 4) l_nil)))) (g_tup rfl (gs_cons 5 hN (gs_cons 6 hN gs_nil))) (s_one (s_if (b_w (w_or (b_lt (m_var 5) m_int) (w_or (b_ge (m_var 5) (m_var 0)) (w_or (b_lt (m_var 6) m_int) (w_or1 (b_ge (m_var 6) (m_var 1))))))) (s_one (s_ret m_bl)) s_nil))))))) (s_one (s_ret (m_and (m_eq hr (m_var 3) (m_sortU T.z_sorted (m_var 3))) (m_one (m_call K__law_apart hr (l_cons (m_var 3) l_nil)))))))
theorem sc_is_tuple_of:FnScope [Str.ofString "thing",Str.ofString "many"] [Str.ofString "thing",Str.ofString "many"] (defScope st_is_tuple_of):=⟨rfl,rfl,rfl,by decide +kernel,rfl,by decide +kernel,by decide +kernel⟩
theorem ok_is_tuple_of {f:Addr} {fd:FuncData} (F:Fun K "is_tuple_of" "is_tuple_of" st_is_tuple_of f fd) (T:Tx K mg) :FnOk P w K mg base CX0 1 f fd [Str.ofString "thing",Str.ofString "many"] (spD K 2 .cl m_is_tuple_of):=by
  refine okD F sc_is_tuple_of (fb:=F_is_tuple_of ) (fun cdv A outer s H E hr=>?_) (fun ds d _ e=>e)
  have hN:=sc_is_tuple_of.nd
  exact (s_one (s_ret (m_and (m_isi .tuple T.z_isinstance T.z_tuple (m_var 0)) (m_one (m_eq hr (m_len T.z_len (m_var 0)) (m_var 1))))))
theorem sc_is_whole:FnScope [Str.ofString "thing"] [Str.ofString "thing"] (defScope st_is_whole):=⟨rfl,rfl,rfl,by decide +kernel,rfl,by decide +kernel,by decide +kernel⟩
theorem ok_is_whole {f:Addr} {fd:FuncData} (F:Fun K "is_whole" "is_whole" st_is_whole f fd) (T:Tx K mg) :FnOk P w K mg base CX0 1 f fd [Str.ofString "thing"] (spD K 1 .cl m_is_whole):=by
  refine okD F sc_is_whole (fb:=F_is_whole ) (fun cdv A outer s H E hr=>?_) (fun ds d _ e=>e)
  have hN:=sc_is_whole.nd
  exact (s_one (s_ret (m_and (m_isi .int T.z_isinstance T.z_int (m_var 0)) (m_one (m_not (m_isi .bool T.z_isinstance T.z_bool (m_var 0)))))))
theorem sc_is_cell:FnScope [Str.ofString "sheet",Str.ofString "thing",Str.ofString "row",Str.ofString "column"] [Str.ofString "sheet",Str.ofString "thing"] (defScope st_is_cell):=⟨rfl,rfl,rfl,by decide +kernel,rfl,by decide +kernel,by decide +kernel⟩
theorem ok_is_cell {f:Addr} {fd:FuncData} (F:Fun K "is_cell" "is_cell" st_is_cell f fd) (T:Tx K mg) (k_is_tuple_of:∀ j,1≤j→Cal P w K mg base j "is_tuple_of" 2 .cl m_is_tuple_of) (k_is_whole:∀ j,1≤j→Cal P w K mg base j "is_whole" 1 .cl m_is_whole):FnOk P w K mg base CX0 2 f fd [Str.ofString "sheet",Str.ofString "thing"] (spD K 2 .cl m_is_cell):=by
  refine okD F sc_is_cell (fb:=F_is_cell m_is_tuple_of m_is_whole) (fun cdv A outer s H E hr=>?_) (fun ds d _ e=>e)
  have hN:=sc_is_cell.nd
  have K_is_tuple_of:=k_is_tuple_of 1 (by decide)
  have K_is_whole:=k_is_whole 1 (by decide)
  exact (s_cons (s_if (b_not (b_val (m_call K_is_tuple_of hr (l_cons (m_var 1) (l_cons m_int l_nil))))) (s_one (s_ret m_bl)) s_nil) (s_cons (s_un rfl (m_var 1) (gs_cons 2 hN (gs_cons 3 hN gs_nil))) (s_one (s_ret (m_and (m_call K_is_whole hr (l_cons (m_var 2) l_nil)) (m_and (m_call K_is_whole hr (l_cons (m_var 3) l_nil)) (m_and (m_chain op_le op_lt d_le d_lt m_int (m_var 2) (m_idx (m_var 0) m_int)) (m_one (m_chain op_le op_lt d_le d_lt m_int (m_var 3) (m_idx (m_var 0) m_int))))))))))
theorem sc_cells_of:FnScope [Str.ofString "ship",Str.ofString "row",Str.ofString "column",Str.ofString "way",Str.ofString "length"] [Str.ofString "ship"] (defScope st_cells_of):=⟨rfl,rfl,rfl,by decide +kernel,rfl,by decide +kernel,by decide +kernel⟩
theorem ok_cells_of {f:Addr} {fd:FuncData} (F:Fun K "cells_of" "cells_of" st_cells_of f fd) (T:Tx K mg) :FnOk P w K mg base CX0 1 f fd [Str.ofString "ship"] (spD K 1 .nw m_cells_of):=by
  refine okD F sc_cells_of (fb:=F_cells_of ) (fun cdv A outer s H E hr=>?_) (fun ds d _ e=>e)
  have hN:=sc_cells_of.nd
  exact (s_cons (s_un rfl (m_var 0) (gs_cons 1 hN (gs_cons 2 hN (gs_cons 3 hN (gs_cons 4 hN gs_nil))))) (s_cons (s_if (b_eq hr (m_var 3) m_str) (s_one (s_ret (m_comp (Nc:=[Str.ofString "step",Str.ofString "row",Str.ofString "column"]) (own:=[Str.ofString "step"]) (caps:=[1,2]) (tgN_ok 0) rfl (i_range1 T.z_range (m_var 4)) rfl rfl (fun _ _ _ _ _ _=>have hN:=(by decide +kernel:List.Nodup ([Str.ofString "step",Str.ofString "row",Str.ofString "column"]:List Str));(blk_last (fun _ _ z=>z) (g_name 0 hN) ts_nil (m_tup (l_cons (m_add (m_var 1) (m_var 0)) (l_cons (m_var 2) l_nil)))))))) s_nil) (s_one (s_ret (m_comp (Nc:=[Str.ofString "step",Str.ofString "row",Str.ofString "column"]) (own:=[Str.ofString "step"]) (caps:=[1,2]) (tgN_ok 0) rfl (i_range1 T.z_range (m_var 4)) rfl rfl (fun _ _ _ _ _ _=>have hN:=(by decide +kernel:List.Nodup ([Str.ofString "step",Str.ofString "row",Str.ofString "column"]:List Str));(blk_last (fun _ _ z=>z) (g_name 0 hN) ts_nil (m_tup (l_cons (m_var 1) (l_cons (m_add (m_var 2) (m_var 0)) l_nil))))))))))
theorem sc_bodies_of:FnScope [Str.ofString "rows",Str.ofString "columns",Str.ofString "length",Str.ofString "along",Str.ofString "down"] [Str.ofString "rows",Str.ofString "columns",Str.ofString "length"] (defScope st_bodies_of):=⟨rfl,rfl,rfl,by decide +kernel,rfl,by decide +kernel,by decide +kernel⟩
theorem ok_bodies_of {f:Addr} {fd:FuncData} (F:Fun K "bodies_of" "bodies_of" st_bodies_of f fd) (T:Tx K mg) (k_cells_of:∀ j,1≤j→Cal P w K mg base j "cells_of" 1 .nw m_cells_of):FnOk P w K mg base CX0 2 f fd [Str.ofString "rows",Str.ofString "columns",Str.ofString "length"] (spD K 3 .nw m_bodies_of):=by
  refine okD F sc_bodies_of (fb:=F_bodies_of m_cells_of) (fun cdv A outer s H E hr=>?_) (fun ds d _ e=>e)
  have hN:=sc_bodies_of.nd
  have K_cells_of:=k_cells_of 1 (by decide)
  exact (s_cons (s_setC 3 (c_comp (Nc:=[Str.ofString "row",Str.ofString "column",Str.ofString "columns",Str.ofString "length"]) (own:=[Str.ofString "row",Str.ofString "column"]) (caps:=[1,2]) (tgN_ok 0) rfl (i_range1 T.z_range (m_var 0)) rfl rfl (fun _ _ _ _ _ _=>have hN:=(by decide +kernel:List.Nodup ([Str.ofString "row",Str.ofString "column",Str.ofString "columns",Str.ofString "length"]:List Str));(blk_more (fun _ _ z=>z) rfl (g_name 0 hN) ts_nil (i_range1 T.z_range (m_add (m_sub (m_var 2) (m_var 3)) m_int)) (tgN_ok 1) (blk_last (fun _ _ z=>z) (g_name 1 hN) ts_nil (m_tup (l_cons (m_var 0) (l_cons (m_var 1) (l_cons m_str (l_cons (m_var 3) l_nil))))))))) hN) (s_cons (s_setC 4 (c_comp (Nc:=[Str.ofString "row",Str.ofString "column",Str.ofString "columns",Str.ofString "length"]) (own:=[Str.ofString "row",Str.ofString "column"]) (caps:=[1,2]) (tgN_ok 0) rfl (i_range1 T.z_range (m_add (m_sub (m_var 0) (m_var 2)) m_int)) rfl rfl (fun _ _ _ _ _ _=>have hN:=(by decide +kernel:List.Nodup ([Str.ofString "row",Str.ofString "column",Str.ofString "columns",Str.ofString "length"]:List Str));(blk_more (fun _ _ z=>z) rfl (g_name 0 hN) ts_nil (i_range1 T.z_range (m_var 2)) (tgN_ok 1) (blk_last (fun _ _ z=>z) (g_name 1 hN) ts_nil (m_tup (l_cons (m_var 0) (l_cons (m_var 1) (l_cons m_str (l_cons (m_var 3) l_nil))))))))) hN) (s_one (s_ret (m_comp (Nc:=[Str.ofString "ship"]) (own:=[Str.ofString "ship"]) (caps:=[]) (tgN_ok 0) rfl (i_list (m_cl (m_addL (m_var 3) (m_var 4)))) rfl rfl (fun _ _ _ _ _ _=>have hN:=(by decide +kernel:List.Nodup ([Str.ofString "ship"]:List Str));(blk_last (fun _ _ z=>z) (g_name 0 hN) ts_nil (m_cl (m_call K_cells_of hr (l_cons (m_var 0) l_nil))))))))))
theorem sc_is_net:FnScope [Str.ofString "rows",Str.ofString "columns",Str.ofString "length",Str.ofString "cells",Str.ofString "taken"] [Str.ofString "rows",Str.ofString "columns",Str.ofString "length",Str.ofString "cells"] (defScope st_is_net):=⟨rfl,rfl,rfl,by decide +kernel,rfl,by decide +kernel,by decide +kernel⟩
theorem ok_is_net {f:Addr} {fd:FuncData} (F:Fun K "is_net" "is_net" st_is_net f fd) (T:Tx K mg) (k_is_cell:∀ j,2≤j→Cal P w K mg base j "is_cell" 2 .cl m_is_cell) (k_bodies_of:∀ j,2≤j→Cal P w K mg base j "bodies_of" 3 .nw m_bodies_of):FnOk P w K mg base CX0 3 f fd [Str.ofString "rows",Str.ofString "columns",Str.ofString "length",Str.ofString "cells"] (spD K 4 .cl m_is_net):=by
  refine okD F sc_is_net (fb:=F_is_net m_is_cell m_bodies_of) (fun cdv A outer s H E hr=>?_) (fun ds d _ e=>e)
  have hN:=sc_is_net.nd
  have K_is_cell:=k_is_cell 2 (by decide)
  have K_bodies_of:=k_bodies_of 2 (by decide)
  exact (s_cons (s_if (b_not (b_val (m_all T.z_all rfl (m_comp (Nc:=[Str.ofString "cell",Str.ofString "rows",Str.ofString "columns"]) (own:=[Str.ofString "cell"]) (caps:=[0,1]) (tgN_ok 0) rfl (i_list (m_var 3)) rfl rfl (fun _ _ _ _ _ _=>have hN:=(by decide +kernel:List.Nodup ([Str.ofString "cell",Str.ofString "rows",Str.ofString "columns"]:List Str));(blk_last (fun _ _ z=>z) (g_name 0 hN) ts_nil (m_call K_is_cell hr (l_cons (m_tup (l_cons (m_var 1) (l_cons (m_var 2) l_nil))) (l_cons (m_var 0) l_nil))))))))) (s_one (s_ret m_bl)) s_nil) (s_cons (s_set 4 (m_setc T.z_set rfl hr (m_var 3)) hN) (s_cons (s_if (b_lt (m_lenS T.z_len (m_var 4)) (m_len T.z_len (m_var 3))) (s_one (s_ret m_bl)) s_nil) (s_one (s_ret (m_all T.z_all rfl (m_comp (Nc:=[Str.ofString "body",Str.ofString "taken"]) (own:=[Str.ofString "body"]) (caps:=[4]) (tgN_ok 0) rfl (i_list (m_cl (m_call K_bodies_of hr (l_cons (m_var 0) (l_cons (m_var 1) (l_cons (m_var 2) l_nil)))))) rfl rfl (fun _ _ _ _ _ _=>have hN:=(by decide +kernel:List.Nodup ([Str.ofString "body",Str.ofString "taken"]:List Str));(blk_last (fun _ _ z=>z) (g_name 0 hN) ts_nil (m_any T.z_any rfl (m_comp (Nc:=[Str.ofString "cell",Str.ofString "taken"]) (own:=[Str.ofString "cell"]) (caps:=[1]) (tgN_ok 0) rfl (i_list (m_var 0)) rfl rfl (fun _ _ _ _ _ _=>have hN:=(by decide +kernel:List.Nodup ([Str.ofString "cell",Str.ofString "taken"]:List Str));(blk_last (fun _ _ z=>z) (g_name 0 hN) ts_nil (m_inS hr (m_var 0) (m_var 1)))))))))))))))
theorem sc_lie_apart:FnScope [Str.ofString "ships",Str.ofString "cells"] [Str.ofString "ships"] (defScope st_lie_apart):=⟨rfl,rfl,rfl,by decide +kernel,rfl,by decide +kernel,by decide +kernel⟩
theorem ok_lie_apart {f:Addr} {fd:FuncData} (F:Fun K "lie_apart" "lie_apart" st_lie_apart f fd) (T:Tx K mg) (k_cells_of:∀ j,1≤j→Cal P w K mg base j "cells_of" 1 .nw m_cells_of):FnOk P w K mg base CX0 2 f fd [Str.ofString "ships"] (spD K 1 .cl m_lie_apart):=by
  refine okD F sc_lie_apart (fb:=F_lie_apart m_cells_of) (fun cdv A outer s H E hr=>?_) (fun ds d _ e=>e)
  have hN:=sc_lie_apart.nd
  have K_cells_of:=k_cells_of 1 (by decide)
  exact (s_cons (s_setC 1 (c_comp (Nc:=[Str.ofString "ship",Str.ofString "cell"]) (own:=[Str.ofString "ship",Str.ofString "cell"]) (caps:=[]) (tgN_ok 0) rfl (i_list (m_var 0)) rfl rfl (fun _ _ _ _ _ _=>have hN:=(by decide +kernel:List.Nodup ([Str.ofString "ship",Str.ofString "cell"]:List Str));(blk_more (fun _ _ z=>z) rfl (g_name 0 hN) ts_nil (i_list (m_cl (m_call K_cells_of hr (l_cons (m_var 0) l_nil)))) (tgN_ok 1) (blk_last (fun _ _ z=>z) (g_name 1 hN) ts_nil (m_var 1))))) hN) (s_one (s_ret (m_eq hr (m_lenS T.z_len (m_setc T.z_set rfl hr (m_var 1))) (m_len T.z_len (m_var 1))))))
theorem sc_least_net:FnScope [Str.ofString "rows",Str.ofString "columns",Str.ofString "length",Str.ofString "high",Str.ofString "wide"] [Str.ofString "rows",Str.ofString "columns",Str.ofString "length"] (defScope st_least_net):=⟨rfl,rfl,rfl,by decide +kernel,rfl,by decide +kernel,by decide +kernel⟩
theorem ok_least_net {f:Addr} {fd:FuncData} (F:Fun K "least_net" "least_net" st_least_net f fd) (T:Tx K mg) (k_needs_ring:∀ j,1≤j→Cal P w K mg base j "needs_ring" 3 .cl m_needs_ring):FnOk P w K mg base CX0 2 f fd [Str.ofString "rows",Str.ofString "columns",Str.ofString "length"] (spD K 3 .cl m_least_net):=by
  refine okD F sc_least_net (fb:=F_least_net m_needs_ring) (fun cdv A outer s H E hr=>?_) (fun ds d _ e=>e)
  have hN:=sc_least_net.nd
  have K_needs_ring:=k_needs_ring 1 (by decide)
  exact (s_cons (s_par 3 4 rfl hN (l_cons (m_mod (m_var 0) (m_var 2)) (l_cons (m_mod (m_var 1) (m_var 2)) l_nil))) (s_cons (s_if (b_val (m_call K_needs_ring hr (l_cons (m_var 0) (l_cons (m_var 1) (l_cons (m_var 2) l_nil))))) (s_one (s_par 3 4 rfl hN (l_cons (m_sub (m_var 2) (m_var 3)) (l_cons (m_sub (m_var 2) (m_var 4)) l_nil)))) s_nil) (s_one (s_ret (m_fdiv (m_sub (m_mul (m_var 0) (m_var 1)) (m_mul (m_var 3) (m_var 4))) (m_var 2))))))
theorem sc_law:FnScope [Str.ofString "script",Str.ofString "cell",Str.ofString "rows",Str.ofString "columns",Str.ofString "length",Str.ofString "found",Str.ofString "cells",Str.ofString "ships",Str.ofString "kept"] [Str.ofString "script"] (defScope st_law):=⟨rfl,rfl,rfl,by decide +kernel,rfl,by decide +kernel,by decide +kernel⟩
theorem ok_law {f:Addr} {fd:FuncData} (F:Fun K "law" "law" st_law f fd) (T:Tx K mg) (k__law_sizes:∀ j,3≤j→Cal P w K mg base j "_law_sizes" 1 .cl m__law_sizes) (k_net_of:∀ j,4≤j→Cal P w K mg base j "net_of" 3 .n2 m_net_of) (k__law_is_net:∀ j,2≤j→Cal P w K mg base j "_law_is_net" 4 .cl m__law_is_net) (k__law_ships_right:∀ j,3≤j→Cal P w K mg base j "_law_ships_right" 4 .cl m__law_ships_right) (k_is_net:∀ j,3≤j→Cal P w K mg base j "is_net" 4 .cl m_is_net) (k_lie_apart:∀ j,2≤j→Cal P w K mg base j "lie_apart" 1 .cl m_lie_apart) (k_least_net:∀ j,2≤j→Cal P w K mg base j "least_net" 3 .cl m_least_net):FnOk P w K mg base CX0 5 f fd [Str.ofString "script"] (spD K 1 .cl m_law):=by
  refine okD F sc_law (fb:=F_law m__law_sizes m_net_of m__law_is_net m__law_ships_right m_is_net m_lie_apart m_least_net) (fun cdv A outer s H E hr=>?_) (fun ds d _ e=>e)
  have hN:=sc_law.nd
  have K__law_sizes:=k__law_sizes 4 (by decide)
  have K_net_of:=k_net_of 4 (by decide)
  have K__law_is_net:=k__law_is_net 4 (by decide)
  have K__law_ships_right:=k__law_ships_right 4 (by decide)
  have K_is_net:=k_is_net 4 (by decide)
  have K_lie_apart:=k_lie_apart 4 (by decide)
  have K_least_net:=k_least_net 4 (by decide)
  exact (s_cons (s_for PassesOwn.never rfl (i_list (m_cl (m_addL (m_lst (l_cons m_int l_nil)) (m_slL (m_var 0) o_none (o_some m_int))))) (g_name 1 hN) (s_cons (s_un rfl (m_call K__law_sizes hr (l_cons (m_var 1) l_nil)) (gs_cons 2 hN (gs_cons 3 hN (gs_cons 4 hN gs_nil)))) (by refine ss_take2 5 6 7 rfl hN ?_ ?_ ?_ ?_;(exact (m_call K_net_of hr (l_cons (m_var 2) (l_cons (m_var 3) (l_cons (m_var 4) l_nil)))));(exact (b_w (w_or (b_not (b_val (m_isi .tuple T.z_isinstance T.z_tuple (m_var 5)))) (w_or1 (b_ne hr (m_comp (Nc:=[Str.ofString "part"]) (own:=[Str.ofString "part"]) (caps:=[]) (tgN_ok 0) rfl (i_tup (m_var 5)) rfl rfl (fun _ _ _ _ _ _=>have hN:=(by decide +kernel:List.Nodup ([Str.ofString "part"]:List Str));(blk_last (fun _ _ z=>z) (g_name 0 hN) (ts_one (fun _ _ z=>z) (b_not (b_val (m_isi .list T.z_isinstance T.z_list (m_var 0))))) (m_var 0)))) (m_lst l_nil))))));(exact (b_w (w_or (b_ne hr (m_len T.z_len (m_var 5)) m_int) (w_or (b_ne hr (m_len T.z_len (m_var 6)) (m_len T.z_len (m_var 7))) (w_or1 (b_ne hr (m_var 6) (m_sortU T.z_sorted (m_var 6))))))));(exact (s_cons (s_if (b_bor [6,7] (b_w (w_or (b_not (b_val (m_call K__law_is_net hr (l_cons (m_var 2) (l_cons (m_var 3) (l_cons (m_var 4) (l_cons (m_var 6) l_nil))))))) (w_or1 (b_not (b_val (m_call K__law_ships_right hr (l_cons (m_var 2) (l_cons (m_var 3) (l_cons (m_var 4) (l_cons (m_var 7) l_nil))))))))))) (s_one (s_ret m_bl)) s_nil) (s_cons (s_if (b_bor [6,7] (b_w (w_or (b_isnt (m_call K_is_net hr (l_cons (m_var 2) (l_cons (m_var 3) (l_cons (m_var 4) (l_cons (m_cl (m_list T.z_list (m_var 6))) l_nil))))) m_bl) (w_or1 (b_isnt (m_call K_lie_apart hr (l_cons (m_cl (m_list T.z_list (m_var 7))) l_nil)) m_bl))))) (s_one (s_ret m_bl)) s_nil) (s_cons (s_if (b_bor [6] (b_ne hr (m_call K_least_net hr (l_cons (m_var 2) (l_cons (m_var 3) (l_cons (m_var 4) l_nil)))) (m_len T.z_len (m_var 6)))) (s_one (s_ret m_bl)) s_nil) (s_cons (s_set 8 (m_tup (l_cons (m_cl (m_list T.z_list (m_pv 6))) (l_cons (m_cl (m_list T.z_list (m_pv 7))) l_nil))) hN) (s_cons (s_app 6 (m_tup (l_cons m_int (l_cons m_int l_nil)))) (s_cons (s_app 7 m_non) (s_one (s_if (b_ne hr (m_call K_net_of hr (l_cons (m_var 2) (l_cons (m_var 3) (l_cons (m_var 4) l_nil)))) (m_var 8)) (s_one (s_ret m_bl)) s_nil)))))))))))) (s_one (s_ret m_bl)))
end
end K22
namespace K22
open PySem PySem.Spec PyProof.Rows L2 Mi
open PySem.W (nsIn findIn keepIn codeIn mg_of mg_none_of)
theorem all_mk {l:PySem.W.OpenLaw} {w:World} {K:PySem.W.Frag} {h:Heap} {mg:Str→Option Value} {fa:Addr} (X:K.In h) (G:h.Ns mainGlobals mg) (hfa:mg "law"=some (.ref fa))
    {f0 f1 f2 f3 f4 f5 f6 f7 f8 f9 f10 f11 f12 f13 f14 f15 f16 f17 f18 f19 f20 f21 f22 f23:Addr}
    (h0:AtF K "_law_stir" st__law_stir f0)
    (h1:AtF K "_law_drawn" st__law_drawn f1)
    (h2:AtF K "_law_sizes" st__law_sizes f2)
    (h3:AtF K "all_cells" st_all_cells f3)
    (h4:AtF K "net_cells" st_net_cells f4)
    (h5:AtF K "needs_ring" st_needs_ring f5)
    (h6:AtF K "lot_of" st_lot_of f6)
    (h7:AtF K "ring_ships" st_ring_ships f7)
    (h8:AtF K "apart_ships" st_apart_ships f8)
    (h9:AtF K "net_of" st_net_of f9)
    (h10:AtF K "_law_runs" st__law_runs f10)
    (h11:AtF K "_law_is_net" st__law_is_net f11)
    (h12:AtF K "_law_cells" st__law_cells f12)
    (h13:AtF K "_law_apart" st__law_apart f13)
    (h14:AtF K "_law_ships_right" st__law_ships_right f14)
    (h15:AtF K "is_tuple_of" st_is_tuple_of f15)
    (h16:AtF K "is_whole" st_is_whole f16)
    (h17:AtF K "is_cell" st_is_cell f17)
    (h18:AtF K "cells_of" st_cells_of f18)
    (h19:AtF K "bodies_of" st_bodies_of f19)
    (h20:AtF K "is_net" st_is_net f20)
    (h21:AtF K "lie_apart" st_lie_apart f21)
    (h22:AtF K "least_net" st_least_net f22)
    (h23:AtF K "law" st_law f23)
    (z_all:nsIn K mainGlobals "all"=some none)
    (z_any:nsIn K mainGlobals "any"=some none)
    (z_bool:nsIn K mainGlobals "bool"=some none)
    (z_dict:nsIn K mainGlobals "dict"=some none)
    (z_int:nsIn K mainGlobals "int"=some none)
    (z_isinstance:nsIn K mainGlobals "isinstance"=some none)
    (z_len:nsIn K mainGlobals "len"=some none)
    (z_list:nsIn K mainGlobals "list"=some none)
    (z_min:nsIn K mainGlobals "min"=some none)
    (z_range:nsIn K mainGlobals "range"=some none)
    (z_set:nsIn K mainGlobals "set"=some none)
    (z_sorted:nsIn K mainGlobals "sorted"=some none)
    (z_tuple:nsIn K mainGlobals "tuple"=some none)
    : ∃ fd:FuncData,(∀ (s:Shared) (v:Value),BindsTo s fd ⟨[v],[]⟩ [("script",v)])∧∀ base:Heap,K.In base→base.Ns mainGlobals mg→FnOk l.prog w K mg base CX0 5 fa fd ["script"] (spD K 1 .cl m_law):=by
  obtain ⟨oc,kV,dc,pm,cd,ct,od,an,sl,aL,lL,cL,kL⟩:=h23
  have e:=hfa.symm.trans (mg_of X G aL)
  cases e
  have T:Tx K mg:=⟨mg_none_of X G z_all,mg_none_of X G z_any,mg_none_of X G z_bool,mg_none_of X G z_dict,mg_none_of X G z_int,mg_none_of X G z_isinstance,mg_none_of X G z_len,mg_none_of X G z_list,mg_none_of X G z_min,mg_none_of X G z_range,mg_none_of X G z_set,mg_none_of X G z_sorted,mg_none_of X G z_tuple⟩
  refine ⟨PySem.W.fnOf "law" "law" (defArgs st_law) (defBody st_law) (defScope st_law) .none kV dc pm an cd ct,fun s v=>.of_eq rfl,fun base _ _=>?_⟩
  obtain ⟨_,F0,k0,g0⟩:=h0.fn X G
  have b0:=F0.binds (ps:=["cell","k"]) fun _ _ _ _ _ _=>ar2 fun _ _=>rfl
  have C0:=cal_of (ok__law_stir (P:=l.prog) (w:=w) (base:=base) F0 T ) k0 g0 b0
  obtain ⟨_,F1,k1,g1⟩:=h1.fn X G
  have b1:=F1.binds (ps:=["cell","sizes"]) fun _ _ _ _ _ _=>ar2 fun _ _=>rfl
  have C1:=cal_of (ok__law_drawn (P:=l.prog) (w:=w) (base:=base) F1 T C0) k1 g1 b1
  obtain ⟨_,F2,k2,g2⟩:=h2.fn X G
  have b2:=F2.binds (ps:=["cell"]) fun _ _ _ _ _ _=>ar1 fun _=>rfl
  have C2:=cal_of (ok__law_sizes (P:=l.prog) (w:=w) (base:=base) F2 T C1) k2 g2 b2
  obtain ⟨_,F3,k3,g3⟩:=h3.fn X G
  have b3:=F3.binds (ps:=["sheet"]) fun _ _ _ _ _ _=>ar1 fun _=>rfl
  have C3:=cal_of (ok_all_cells (P:=l.prog) (w:=w) (base:=base) F3 T ) k3 g3 b3
  obtain ⟨_,F4,k4,g4⟩:=h4.fn X G
  have b4:=F4.binds (ps:=["rows","columns","length"]) fun _ _ _ _ _ _=>ar3 fun _ _ _=>rfl
  have C4:=cal_of (ok_net_cells (P:=l.prog) (w:=w) (base:=base) F4 T C3) k4 g4 b4
  obtain ⟨_,F5,k5,g5⟩:=h5.fn X G
  have b5:=F5.binds (ps:=["rows","columns","length"]) fun _ _ _ _ _ _=>ar3 fun _ _ _=>rfl
  have C5:=cal_of (ok_needs_ring (P:=l.prog) (w:=w) (base:=base) F5 T ) k5 g5 b5
  obtain ⟨_,F6,k6,g6⟩:=h6.fn X G
  have b6:=F6.binds (ps:=["corner","size","way","length"]) fun _ _ _ _ _ _=>ar4 fun _ _ _ _=>rfl
  have C6:=cal_of (ok_lot_of (P:=l.prog) (w:=w) (base:=base) F6 T ) k6 g6 b6
  obtain ⟨_,F7,k7,g7⟩:=h7.fn X G
  have b7:=F7.binds (ps:=["rows","columns","length"]) fun _ _ _ _ _ _=>ar3 fun _ _ _=>rfl
  have C7:=cal_of (ok_ring_ships (P:=l.prog) (w:=w) (base:=base) F7 T C6) k7 g7 b7
  obtain ⟨_,F8,k8,g8⟩:=h8.fn X G
  have b8:=F8.binds (ps:=["rows","columns","length"]) fun _ _ _ _ _ _=>ar3 fun _ _ _=>rfl
  have C8:=cal_of (ok_apart_ships (P:=l.prog) (w:=w) (base:=base) F8 T C5 C7 C6) k8 g8 b8
  obtain ⟨_,F9,k9,g9⟩:=h9.fn X G
  have b9:=F9.binds (ps:=["rows","columns","length"]) fun _ _ _ _ _ _=>ar3 fun _ _ _=>rfl
  have C9:=cal_of (ok_net_of (P:=l.prog) (w:=w) (base:=base) F9 T C4 C8) k9 g9 b9
  obtain ⟨_,F10,k10,g10⟩:=h10.fn X G
  have b10:=F10.binds (ps:=["rows","columns","length"]) fun _ _ _ _ _ _=>ar3 fun _ _ _=>rfl
  have C10:=cal_of (ok__law_runs (P:=l.prog) (w:=w) (base:=base) F10 T ) k10 g10 b10
  obtain ⟨_,F11,k11,g11⟩:=h11.fn X G
  have b11:=F11.binds (ps:=["rows","columns","length","cells"]) fun _ _ _ _ _ _=>ar4 fun _ _ _ _=>rfl
  have C11:=cal_of (ok__law_is_net (P:=l.prog) (w:=w) (base:=base) F11 T C10) k11 g11 b11
  obtain ⟨_,F12,k12,g12⟩:=h12.fn X G
  have b12:=F12.binds (ps:=["ship"]) fun _ _ _ _ _ _=>ar1 fun _=>rfl
  have C12:=cal_of (ok__law_cells (P:=l.prog) (w:=w) (base:=base) F12 T ) k12 g12 b12
  obtain ⟨_,F13,k13,g13⟩:=h13.fn X G
  have b13:=F13.binds (ps:=["ships"]) fun _ _ _ _ _ _=>ar1 fun _=>rfl
  have C13:=cal_of (ok__law_apart (P:=l.prog) (w:=w) (base:=base) F13 T C12) k13 g13 b13
  obtain ⟨_,F14,k14,g14⟩:=h14.fn X G
  have b14:=F14.binds (ps:=["rows","columns","length","ships"]) fun _ _ _ _ _ _=>ar4 fun _ _ _ _=>rfl
  have C14:=cal_of (ok__law_ships_right (P:=l.prog) (w:=w) (base:=base) F14 T C12 C13) k14 g14 b14
  obtain ⟨_,F15,k15,g15⟩:=h15.fn X G
  have b15:=F15.binds (ps:=["thing","many"]) fun _ _ _ _ _ _=>ar2 fun _ _=>rfl
  have C15:=cal_of (ok_is_tuple_of (P:=l.prog) (w:=w) (base:=base) F15 T ) k15 g15 b15
  obtain ⟨_,F16,k16,g16⟩:=h16.fn X G
  have b16:=F16.binds (ps:=["thing"]) fun _ _ _ _ _ _=>ar1 fun _=>rfl
  have C16:=cal_of (ok_is_whole (P:=l.prog) (w:=w) (base:=base) F16 T ) k16 g16 b16
  obtain ⟨_,F17,k17,g17⟩:=h17.fn X G
  have b17:=F17.binds (ps:=["sheet","thing"]) fun _ _ _ _ _ _=>ar2 fun _ _=>rfl
  have C17:=cal_of (ok_is_cell (P:=l.prog) (w:=w) (base:=base) F17 T C15 C16) k17 g17 b17
  obtain ⟨_,F18,k18,g18⟩:=h18.fn X G
  have b18:=F18.binds (ps:=["ship"]) fun _ _ _ _ _ _=>ar1 fun _=>rfl
  have C18:=cal_of (ok_cells_of (P:=l.prog) (w:=w) (base:=base) F18 T ) k18 g18 b18
  obtain ⟨_,F19,k19,g19⟩:=h19.fn X G
  have b19:=F19.binds (ps:=["rows","columns","length"]) fun _ _ _ _ _ _=>ar3 fun _ _ _=>rfl
  have C19:=cal_of (ok_bodies_of (P:=l.prog) (w:=w) (base:=base) F19 T C18) k19 g19 b19
  obtain ⟨_,F20,k20,g20⟩:=h20.fn X G
  have b20:=F20.binds (ps:=["rows","columns","length","cells"]) fun _ _ _ _ _ _=>ar4 fun _ _ _ _=>rfl
  have C20:=cal_of (ok_is_net (P:=l.prog) (w:=w) (base:=base) F20 T C17 C19) k20 g20 b20
  obtain ⟨_,F21,k21,g21⟩:=h21.fn X G
  have b21:=F21.binds (ps:=["ships"]) fun _ _ _ _ _ _=>ar1 fun _=>rfl
  have C21:=cal_of (ok_lie_apart (P:=l.prog) (w:=w) (base:=base) F21 T C18) k21 g21 b21
  obtain ⟨_,F22,k22,g22⟩:=h22.fn X G
  have b22:=F22.binds (ps:=["rows","columns","length"]) fun _ _ _ _ _ _=>ar3 fun _ _ _=>rfl
  have C22:=cal_of (ok_least_net (P:=l.prog) (w:=w) (base:=base) F22 T C5) k22 g22 b22
  exact ok_law (fun_mk (st:=st_law) lL cL kL) T  C2 C9 C11 C14 C20 C21 C22
theorem walk_top {l:PySem.W.OpenLaw} {q:Program} {loose:List Str} {XP:(Str→Option Value)→Heap→Prop} {YP:World→Heap→Prop} {d:DefRec} {K:Params→PySem.W.Frag} (hn:l.most=some 63) (hdf:d.params.defaults=[])
    (hY:∀ (w:World) (h:Heap),YP w h→(K w.params).In h)
    (F:∀ (w:World) (mg:Str→Option Value) (fa:Addr) (h:Heap),(K w.params).In h→h.Ns mainGlobals mg→mg d.name=some (.ref fa)→
      ∃ fd:FuncData,(∀ (s:Shared) (u:Value),BindsTo s fd ⟨[u],[]⟩ [("script",u)])∧∀ base:Heap,(K w.params).In base→base.Ns mainGlobals mg→FnOk l.prog w (K w.params) mg base CX0 5 fa fd ["script"] (spD (K w.params) 1 .cl m_law)) :
    PySem.W.WalkO q loose XP YP l.row.toRowW d [] (fun f vs=>PySem.call f vs):=
  L2.walk_of (n:=63) (k:=5) (x:="script") (CX:=fun _=>CX0) (sp:=fun w=>spD (K w.params) 1 .cl m_law) hn (by decide) hdf ⟨rfl,by decide,by decide⟩ hY F
    (fun w H a ns hl _ hS=>⟨H,[.lst (ns.map .int)],.bl true,rfl,fun _ _ z=>z,⟨_,_,rfl,⟨a,_,rfl,hS,Reps.ints ns⟩,rfl⟩,law_true ns hl,fun v Z' H' _ g=>g⟩) fun _ _ _ _ _ z=>z
end K22
open PySem PySem.W PyProof.Rows
local macro_rules | `(tactic| walk_at "at") => `(tactic| (refine' Mi.at_mk ?a ?l ?c ?k; (case a => k_is); (case l => k_is); (case c => k_is); (case k => k_is)))
set_option maxRecDepth 100000 in
set_option maxHeartbeats 0 in
theorem PySem.Challenge.cw_fleethide_k22_whole_nets_and_ships_apart_holds : PySem.Challenge.rw_fleethide_k22_whole_nets_and_ships_apart.Holds := by
  w_on
  o_law
  k_head
  (case hw=>w_witness2)
  k_fill
  refine K22.walk_top (l:=PySem.Challenge.rw_fleethide_k22_whole_nets_and_ships_apart) rfl rfl (fun w h Y=>PySem.W.kIn_of Y) ?F
  case F=>
    intro w mg fa h KX G hmg
    refine' K22.all_mk KX G hmg ?h0 ?h1 ?h2 ?h3 ?h4 ?h5 ?h6 ?h7 ?h8 ?h9 ?h10 ?h11 ?h12 ?h13 ?h14 ?h15 ?h16 ?h17 ?h18 ?h19 ?h20 ?h21 ?h22 ?h23 ?z_all ?z_any ?z_bool ?z_dict ?z_int ?z_isinstance ?z_len ?z_list ?z_min ?z_range ?z_set ?z_sorted ?z_tuple
    (case h0=>walk_at "at")
    (case h1=>walk_at "at")
    (case h2=>walk_at "at")
    (case h3=>walk_at "at")
    (case h4=>walk_at "at")
    (case h5=>walk_at "at")
    (case h6=>walk_at "at")
    (case h7=>walk_at "at")
    (case h8=>walk_at "at")
    (case h9=>walk_at "at")
    (case h10=>walk_at "at")
    (case h11=>walk_at "at")
    (case h12=>walk_at "at")
    (case h13=>walk_at "at")
    (case h14=>walk_at "at")
    (case h15=>walk_at "at")
    (case h16=>walk_at "at")
    (case h17=>walk_at "at")
    (case h18=>walk_at "at")
    (case h19=>walk_at "at")
    (case h20=>walk_at "at")
    (case h21=>walk_at "at")
    (case h22=>walk_at "at")
    (case h23=>walk_at "at")
    (case z_all=>k_is)
    (case z_any=>k_is)
    (case z_bool=>k_is)
    (case z_dict=>k_is)
    (case z_int=>k_is)
    (case z_isinstance=>k_is)
    (case z_len=>k_is)
    (case z_list=>k_is)
    (case z_min=>k_is)
    (case z_range=>k_is)
    (case z_set=>k_is)
    (case z_sorted=>k_is)
    (case z_tuple=>k_is)
