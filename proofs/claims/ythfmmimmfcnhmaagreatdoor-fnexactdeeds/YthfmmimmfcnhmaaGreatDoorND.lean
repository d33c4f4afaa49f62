import Derived.Test.YthfmmimmfcnhmaaGreatDoorZ27
import Derived.Test.YthfmmimmfcnhmaaGreatDoorZ26
import Derived.Test.YthfmmimmfcnhmaaGreatDoorZ21
set_option maxHeartbeats 8000000
namespace Go.Proofs.YthfmmimmfcnhmaaGreatDoor
open Go.RowKit
variable {b:UInt8} {a l r:List UInt8}
theorem cst_fold_no (h:b∉l) (P:List (List UInt8)) (q:List UInt8):l.foldl (cst b) (P,q)=(P,q++l):=by
 induction l generalizing q with
 | nil=>simp
 | cons c l ih=>
  have hc:c≠b:=fun e=>h (by simp [e])
  rw [List.foldl_cons]
  have:cst b (P,q) c=(P,q++[c]):=by unfold cst;rw [if_neg hc]
  rw [this,ih (fun hm=>h (List.mem_cons_of_mem _ hm)),List.append_assoc];rfl
theorem cst_fold_pre (b:UInt8) (l:List UInt8) (P Q:List (List UInt8)) (q:List UInt8):l.foldl (cst b) (P++Q,q)=(P++(l.foldl (cst b) (Q,q)).1,(l.foldl (cst b) (Q,q)).2):=by
 induction l generalizing Q q with
 | nil=>rfl
 | cons c l ih=>
  rw [List.foldl_cons,List.foldl_cons]
  by_cases hc:c=b
  · have e1:cst b (P++Q,q) c=(P++(Q++[q]),[]):=by unfold cst;rw [if_pos hc,List.append_assoc]
    have e2:cst b (Q,q) c=(Q++[q],[]):=by unfold cst;rw [if_pos hc]
    rw [e1,e2,ih]
  have e1:cst b (P++Q,q) c=(P++Q,q++[c]):=by unfold cst;rw [if_neg hc]
  have e2:cst b (Q,q) c=(Q,q++[c]):=by unfold cst;rw [if_neg hc]
  rw [e1,e2,ih]
theorem cut_no (h:b∉l):cutS b l=[l]:=by
 unfold cutS cstate
 rw [cst_fold_no h];rfl
theorem cut_hit (h:b∉a):cutS b (a++b::r)=a::cutS b r:=by
 unfold cutS cstate
 rw [List.foldl_append,cst_fold_no h,List.foldl_cons]
 have e:cst b ([],[]++a) b=([a]++[],[]):=by unfold cst;rw [if_pos rfl];simp
 rw [e,cst_fold_pre]
 simp
theorem idx_10 (l:List UInt8):(Lib.index l [10]=-1/\(10:UInt8)∉l)\/(∃ i:Nat,Lib.index l [10]=i/\i<l.length/\l=l.take i++10::l.drop (i+1)/\(10:UInt8)∉l.take i):=by
 rw [Lib.index_one]
 have hge:=Lib.indexByte_ge l 10
 by_cases h:Lib.indexByte l 10=-1
 · refine .inl ⟨h,fun hm=>?_⟩
   obtain ⟨k,hk,e⟩:=List.getElem_of_mem hm
   exact Lib.indexByte_none h k (by rw [List.getElem?_eq_getElem hk,e])
 obtain ⟨o,ho⟩:∃ o:Nat,Lib.indexByte l 10=o:=⟨(Lib.indexByte l 10).toNat,by omega⟩
 obtain ⟨h1,h2⟩:=Lib.indexByte_some ho
 have hl:o<l.length:=by
  rcases Nat.lt_or_ge o l.length with h | h
  · exact h
  rw [List.getElem?_eq_none h] at h1;cases h1
 refine .inr ⟨o,ho,hl,?_,fun hm=>?_⟩
 · have hx:l[o]=10:=by rw [List.getElem?_eq_getElem hl] at h1;exact Option.some.inj h1
   conv=>lhs;rw [<- List.take_append_drop o l,List.drop_eq_getElem_cons hl,hx]
 obtain ⟨k,hk,e⟩:=List.getElem_of_mem hm
 rw [List.length_take] at hk
 rw [List.getElem_take] at e
 exact h2 k (by omega) (by rw [List.getElem?_eq_getElem (by omega),e])
theorem split_10 (f:Nat):∀ l:List UInt8,l.length<f->Lib.splitK [10] 0 (Lib.countFrom [10] f l) l=cutS 10 l/\(cutS 10 l).length=Lib.countFrom [10] f l+1:=by
 induction f with
 | zero=>intro l h;omega
 | succ f ih=>
  intro l h
  rcases idx_10 l with ⟨hi,hn⟩ | ⟨i,hi,hl,he,hn⟩
  · have hc:Lib.countFrom [10] (f+1) l=0:=by rw [Lib.countFrom,hi];rfl
    rw [hc,cut_no hn]
    exact ⟨rfl,rfl⟩
  have hne:¬ ((i:Int)==-1)=true:=fun e=>by have:=beq_iff_eq.1 e;omega
  obtain ⟨h1,h2⟩:=ih (l.drop (i+1)) (by rw [List.length_drop];omega)
  have hc:Lib.countFrom [10] (f+1) l=Lib.countFrom [10] f (l.drop (i+1))+1:=by
   rw [Lib.countFrom,hi,if_neg hne,Nat.add_comm];rfl
  have hcut:cutS 10 l=l.take i::cutS 10 (l.drop (i+1)):=by
   conv=>lhs;rw [he]
   exact cut_hit hn
  rw [hc,hcut]
  refine ⟨?_,by rw [List.length_cons,h2]⟩
  rw [Lib.splitK,hi,if_neg hne,<- h1]
  rfl
theorem c187 (s:ByteArray) (w:World) (hs:s.size<=1048700) (hm:MaxAt w):
 Calls Tryz.prog 187 #[.string s,.string ⟨#[10]⟩] w fun e w'=>(e=.returned (.slice (some ⟨w.heap.size,0,none⟩) (cutS 10 s.data.toList).length (cutS 10 s.data.toList).length)/\LinesAt w' w.heap.size (cutS 10 s.data.toList))/\Below w.heap.size w w':=by
 obtain ⟨_,m,hm⟩:=hm
 obtain ⟨h1,h2⟩:=split_10 (s.data.toList.length+1) s.data.toList (by omega)
 have hd:Lib.splitB ⟨#[10]⟩ 0 (Lib.countB s ⟨#[10]⟩) s=(cutS 10 s.data.toList).map ofL:=toL_inj ((Lib.splitB_data ⟨#[10]⟩ 0 (Lib.countB s ⟨#[10]⟩) s).trans h1)
 have hc:Lib.countB s ⟨#[10]⟩+1=(cutS 10 s.data.toList).length:=h2.symm
 refine (Tryz.strings_Split s ⟨#[10]⟩ m w (by omega) hm (by decide)).mono ?_
 rintro e w' ⟨rfl,rfl⟩
 rw [hd,hc]
 refine ⟨⟨rfl,by simp,fun i hi=>?_⟩,(Below.refl _ _).alloc (Nat.le_refl _) _⟩
 simp [hi]
end Go.Proofs.YthfmmimmfcnhmaaGreatDoor
namespace Go.Proofs.YthfmmimmfcnhmaaGreatDoor.G
open Go.RowKit
open T (F2 f2z treeOk Asc)
variable {fs:List F2} {ms:List M3}
def planA:ByteArray:=⟨#[112,108,97,110]⟩
def Free (fs:List F2) (nm:ByteArray):Prop:=∀ j,j<fs.length->(fs.getD j f2z).nm≠nm
def FreeAll (fs:List F2) (ms:List M3):Prop:=∀ i,i<ms.length->Free fs (ms.getD i m3z).nm
def IsPT (fs:List F2) (ms:List M3):Prop:=
 (¬ treeOk fs/\ms=[])\/(treeOk fs/\Free fs planA/\ms=[])\/
 (treeOk fs/\∃ i,i<fs.length/\(fs.getD i f2z).nm=planA/\∃ ks ok,IsPlan (fs.getD i f2z).tx.data.toList ks ok/\((ok=true/\FreeAll fs ks/\ms=ks)\/(¬ (ok=true/\FreeAll fs ks)/\ms=[])))
theorem name_once (h:treeOk fs) {i j:Nat} (hi:i<fs.length) (hj:j<fs.length) (e:(fs.getD i f2z).nm=(fs.getD j f2z).nm):i=j:=by
 have hm:=T.asc_of h
 rcases Nat.lt_trichotomy i j with h1 | h1 | h1
 · have:=hm i j h1 hj
   rw [e,T.lt_irrefl'] at this;cases this
 · exact h1
 have:=hm j i h1 hi
 rw [e,T.lt_irrefl'] at this;cases this
theorem isPT_one {ns:List M3} (h:IsPT fs ms) (k:IsPT fs ns):ms=ns:=by
 rcases h with ⟨h1,rfl⟩ | ⟨h1,h2,rfl⟩ | ⟨h1,i,hi,hn,ks,ok,hp,hr⟩
 · rcases k with ⟨_,rfl⟩ | ⟨k1,_⟩ | ⟨k1,_⟩
   · rfl
   · exact absurd k1 h1
   exact absurd k1 h1
 · rcases k with ⟨k1,_⟩ | ⟨_,_,rfl⟩ | ⟨_,j,hj,hk,_⟩
   · exact absurd h1 k1
   · rfl
   exact absurd hk (h2 j hj)
 rcases k with ⟨k1,_⟩ | ⟨_,k2,_⟩ | ⟨_,j,hj,hk,ks',ok',hp',hr'⟩
 · exact absurd h1 k1
 · exact absurd hn (k2 i hi)
 obtain rfl:=name_once h1 hi hj (hn.trans hk.symm)
 obtain ⟨rfl,rfl⟩:=isPlan_one hp hp'
 rcases hr with ⟨a1,a2,rfl⟩ | ⟨a1,rfl⟩
 · rcases hr' with ⟨_,_,rfl⟩ | ⟨b1,_⟩
   · rfl
   exact absurd ⟨a1,a2⟩ b1
 rcases hr' with ⟨b1,b2,_⟩ | ⟨_,rfl⟩
 · exact absurd ⟨b1,b2⟩ a1
 rfl
theorem isPlan_len {l:List UInt8} {ok:Bool} (h:IsPlan l ms ok):ms.length<=300/\∀ i,(ms.getD i m3z).le 300:=by
 cases ok
 · rw [(h.2 rfl).1]
   exact ⟨Nat.zero_le _,fun i=>⟨Nat.zero_le _,Nat.zero_le _,Nat.zero_le _⟩⟩
 obtain ⟨h1,h2,h3⟩:=h.1 rfl
 have:=lines_ge ms
 rw [h2] at this
 exact ⟨by omega,getD_smallM fun i hi=>okM_le (getM_ok (plan_all h1) hi)⟩
theorem isPT_len (h:IsPT fs ms):ms.length<=300:=by
 rcases h with ⟨_,rfl⟩ | ⟨_,_,rfl⟩ | ⟨_,i,hi,hn,ks,ok,hp,hr⟩
 · exact Nat.zero_le _
 · exact Nat.zero_le _
 rcases hr with ⟨_,_,rfl⟩ | ⟨_,rfl⟩
 · exact (isPlan_len hp).1
 exact Nat.zero_le _
end Go.Proofs.YthfmmimmfcnhmaaGreatDoor.G
namespace Go.Proofs.YthfmmimmfcnhmaaGreatDoor
open Proofs.Tryz
open Go.RowKit
variable {b base pl:Nat} {arg:ByteArray} {rv:Value} {w:World}
def RC.tn (r:RC):TN:=⟨r.over,r.code,r.text,r.has,r.name,r.steps⟩
def ST.up (s:ST):ST:=⟨s.hand,s.out,s.pc+1,s.looks,s.steps+1⟩
def rcL (p v:Value) (arg:ByteArray) (rv:Value) (pl:Nat) (s:ST):RC:=⟨p,v,s.hand,arg,rv,s.looks,pl,s.pc,false,false,0,⟨#[]⟩,false,⟨#[]⟩,s.steps⟩
def Live (base b:Nat) (arg:ByteArray) (rv:Value) (pl:Nat) (w:World) (s:ST):Prop:=∃ p v,St base b w (rcL p v arg rv pl s) s.out
def Dead (b:Nat) (w:World) (t:TN):Prop:=∃ r:RC,RunAt w b r/\r.halted=true/\r.tn=t
def After (base b:Nat) (arg:ByteArray) (rv:Value) (pl:Nat) (w:World):ST ⊕ TN->Prop
 | .inl s=>Live base b arg rv pl w s
 | .inr t=>Dead b w t
theorem after_l {x:ST ⊕ TN} {s:ST} (e:x=.inl s) (h:Live base b arg rv pl w s):After base b arg rv pl w x:=by rw [e];exact h
theorem after_r {x:ST ⊕ TN} {t:TN} (e:x=.inr t) (h:Dead b w t):After base b arg rv pl w x:=by rw [e];exact h
def RepAt (base b:Nat) (w:World) (a:Option Addr) (rs:List R2):Prop:=rs=[]\/∃ rb off,a=some ⟨rb,off,none⟩/\rb<base/\rb≠b/\∀ i,i<rs.length->w.cell? ⟨rb,off+i*2,none⟩=some (.int .i64 (rs.getD i r2z).code)/\w.cell? ⟨rb,off+i*2+1,none⟩=some (.string (rs.getD i r2z).tx)
structure Met (base b:Nat) (arg:ByteArray) (reps:List R2) (a2:Option Addr) (cap2:Nat) (s:ST) (tx:ByteArray) (to:Int) (w:World):Prop where
 fit:Fit reps s
 ok:okR reps=true
 len:reps.length<=14
 rep:RepAt base b w a2 reps
 max:1<base/\b≠0/\MaxAt w
 harg:arg.size<=300
 htx:tx.size<=300
 to0:0<=to
 to1:to<=40
 pc:s.pc<=40
 steps:s.steps<200
 live:Live base b arg (.slice a2 reps.length cap2) s.pc w s.up
def MOk (f:Nat) (op:Int):Prop:=∀ (base b:Nat) (arg:ByteArray) (reps:List R2) (a2:Option Addr) (cap2:Nat) (s:ST) (tx:ByteArray) (to:Int) (w:World),Met base b arg reps a2 cap2 s tx to w->
 Calls prog f #[.pointer (some ⟨b,0,none⟩),.agg #[.int .i64 op,.string tx,.int .i64 to]] w fun e w'=>e=.returned (.tuple #[])/\After base b arg (.slice a2 reps.length cap2) s.pc w' (act arg reps ⟨op,tx,to⟩ s)/\Kp base b w w'
theorem m90:MOk 165 1:=by
 intro base b arg reps a2 cap2 s tx to w hm
 obtain ⟨p,v,hS⟩:=hm.live
 have HS:Hid (St base b w (rcL p v arg (.slice a2 reps.length cap2) s.pc s.up) s.out):=hS
 have c2:w.cell? ⟨b,2,none⟩=some (.string s.hand):=run_cell hS.run 2
 have f2:=run_free hS.run 2
 have hlt:=run_lt hS.run
 have hle:=hS.le
 obtain ⟨n,rfl⟩:=Int.eq_ofNat_of_zero_le hm.to0
 have hto:=hm.to1
 have htx:=hm.htx
 have hpc:=hm.pc
 obtain ⟨g1,g2,g3,g4,g5,g6⟩:=hm.fit
 clear hS hm
 go_enter func165,ntmps165
 go_wp2
 go_end0
 refine ⟨rfl,after_l act_1 ⟨p,v,?_⟩,(((Kp.refl base b w).set 2 _).alloc (by simpa using hle) _)⟩
 refine St.below ?_ (((Below.refl _ _).alloc (Nat.le_refl _) _))
 exact HS.out.set 2 _ rfl rfl rfl
theorem m91:MOk 166 2:=by
 intro base b arg reps a2 cap2 s tx to w hm
 obtain ⟨p,v,hS⟩:=hm.live
 have HS:Hid (St base b w (rcL p v arg (.slice a2 reps.length cap2) s.pc s.up) s.out):=hS
 have c2:w.cell? ⟨b,2,none⟩=some (.string s.hand):=run_cell hS.run 2
 have cx3:w.cell? ⟨b,3,none⟩=some (.string arg):=run_cell hS.run 3
 have f2:=run_free hS.run 2
 have hlt:=run_lt hS.run
 have hle:=hS.le
 obtain ⟨n,rfl⟩:=Int.eq_ofNat_of_zero_le hm.to0
 have hto:=hm.to1
 have htx:=hm.htx
 have hpc:=hm.pc
 obtain ⟨g1,g2,g3,g4,g5,g6⟩:=hm.fit
 clear hS hm
 go_enter func166,ntmps166
 go_wp2
 go_end0
 refine ⟨rfl,after_l act_2 ⟨p,v,?_⟩,(((Kp.refl base b w).set 2 _).alloc (by simpa using hle) _)⟩
 refine St.below ?_ (((Below.refl _ _).alloc (Nat.le_refl _) _))
 exact HS.out.set 2 _ rfl rfl rfl
theorem m92:MOk 167 3:=by
 intro base b arg reps a2 cap2 s tx to w hm
 obtain ⟨p,v,hS⟩:=hm.live
 have HS:Hid (St base b w (rcL p v arg (.slice a2 reps.length cap2) s.pc s.up) s.out):=hS
 have c2:w.cell? ⟨b,2,none⟩=some (.string s.hand):=run_cell hS.run 2
 have f2:=run_free hS.run 2
 have hlt:=run_lt hS.run
 have hle:=hS.le
 obtain ⟨n,rfl⟩:=Int.eq_ofNat_of_zero_le hm.to0
 have hto:=hm.to1
 have htx:=hm.htx
 have hpc:=hm.pc
 obtain ⟨g1,g2,g3,g4,g5,g6⟩:=hm.fit
 have HREP:Hid (RepAt base b w a2 reps):=hm.rep
 have hlen:=hm.len
 clear hS hm
 by_cases hn0:nameOk s.hand.data.toList=false
 · have HN:Hid (nameOk s.hand.data.toList=false):=hn0
   clear hn0
   have HRW:RunAt (w.alloc (.cells #[.int .i64 3,.string tx,.int .i64 n] 183)) b (rcL p v arg (.slice a2 reps.length cap2) s.pc s.up):=run_alloc HS.out.run _
   go_enter func167,ntmps167
   go_wp2_with fail
   refine (c184a b _ false _ HRW g1 HN.out).mono ?_
   rintro e w1 ⟨rfl,h1,hk1⟩
   have H1:Hid (RunAt w1 b _):=h1
   have HK1:Hid (Kp base b w w1):=((Kp.refl base b w).alloc hle _).trans (hk1.mono (by simp;omega))
   have hle1:base<=w1.heap.size:=Nat.le_trans hle HK1.out.size
   clear h1 hk1 HRW
   go_wp2
   refine bodyPost_ret (results_none rfl _ _ _) rfl ?_
   exact ⟨rfl,after_r (act_3.trans (look_noname HN.out)) ⟨_,run_alloc H1.out _,rfl,rfl⟩,HK1.out.alloc hle1 _⟩
 have HN:Hid (nameOk s.hand.data.toList=true):=by simpa [Hid] using hn0
 clear hn0
 by_cases hl14:14<=s.looks
 · have HQ:Hid (14<=s.looks):=hl14
   have HRW:RunAt (w.alloc (.cells #[.int .i64 3,.string tx,.int .i64 n] 183)) b (rcL p v arg (.slice a2 reps.length cap2) s.pc s.up):=run_alloc HS.out.run _
   go_enter func167,ntmps167
   go_wp2_with fail
   refine (c184b b _ false _ HRW g1 HN.out (by show ((s.looks:Nat):Int)=14;omega)).mono ?_
   rintro e w1 ⟨rfl,h1,hk1⟩
   have H1:Hid (RunAt w1 b _):=h1
   have HK1:Hid (Kp base b w w1):=((Kp.refl base b w).alloc hle _).trans (hk1.mono (by simp;omega))
   have hle1:base<=w1.heap.size:=Nat.le_trans hle HK1.out.size
   clear h1 hk1 HRW
   go_wp2
   refine bodyPost_ret (results_none rfl _ _ _) rfl ?_
   exact ⟨rfl,after_r (act_3.trans (look_spent HN.out HQ.out)) ⟨_,run_alloc H1.out _,rfl,rfl⟩,HK1.out.alloc hle1 _⟩
 have H14:Hid (¬ 14<=s.looks):=hl14
 by_cases hlr:reps.length<=s.looks
 · have HQ:Hid (reps.length<=s.looks):=hlr
   have heq:s.looks=reps.length:=by omega
   have HRW:RunAt (w.alloc (.cells #[.int .i64 3,.string tx,.int .i64 n] 183)) b (rcL p v arg (.slice a2 reps.length cap2) s.pc s.up):=run_alloc HS.out.run _
   go_enter func167,ntmps167
   go_wp2_with fail
   refine (c184c b _ false _ HRW g1 HN.out a2 reps.length cap2 (by show ((s.looks:Nat):Int)=_;rw [heq]) (by omega) rfl).mono ?_
   rintro e w1 ⟨rfl,h1,hk1⟩
   have H1:Hid (RunAt w1 b _):=h1
   have HK1:Hid (Kp base b w w1):=((Kp.refl base b w).alloc hle _).trans (hk1.mono (by simp;omega))
   have hle1:base<=w1.heap.size:=Nat.le_trans hle HK1.out.size
   clear h1 hk1 HRW
   go_wp2
   refine bodyPost_ret (results_none rfl _ _ _) rfl ?_
   exact ⟨rfl,after_r (act_3.trans (look_stop HN.out H14.out HQ.out)) ⟨_,run_alloc H1.out _,rfl,rfl⟩,HK1.out.alloc hle1 _⟩
 have HLR:Hid (¬ reps.length<=s.looks):=hlr
 have hlk:s.looks<reps.length:=by omega
 rcases HREP.out with hss | ⟨rb,roff,ha2,hrb,hrne,hcell⟩
 · rw [hss] at hlk;exact absurd hlk (Nat.not_lt_zero _)
 subst ha2
 obtain ⟨x0,x1⟩:=hcell s.looks hlk
 have hrb':rb<w.heap.size:=by omega
 have y0:=past (p:=⟨rb,roff+s.looks*2,none⟩) hrb' x0
 have y1:=past (p:=⟨rb,roff+s.looks*2+1,none⟩) hrb' x1
 generalize hy:reps.getD s.looks r2z=y at*
 have HY:Hid (reps.getD s.looks r2z=y):=hy
 clear hy hcell HREP hl14 hlr
 have HRW:RunAt (w.alloc (.cells #[.int .i64 3,.string tx,.int .i64 n] 183)) b (rcL p v arg (.slice (some ⟨rb,roff,none⟩) reps.length cap2) s.pc s.up):=run_alloc HS.out.run _
 go_enter func167,ntmps167
 go_wp2_with fail
 refine (c184d b _ false _ HRW g1 HN.out rb roff reps.length cap2 s.looks y rfl (by omega) hlk rfl hlen (by simp;omega) (y0 _) (y1 _)).mono ?_
 rintro e w1 ⟨rfl,h1,hk1⟩
 have HS1:Hid (St base b w1 (rcL p v arg (.slice (some ⟨rb,roff,none⟩) reps.length cap2) s.pc ⟨s.hand,s.out,s.pc+1,s.looks+1,s.steps+1⟩) s.out):=(HS.out.below ((Below.refl _ _).alloc (Nat.le_refl _) (.cells #[.int .i64 3,.string tx,.int .i64 n] 183))).kp hk1 h1 rfl rfl
 have HK1:Hid (Kp base b w w1):=((Kp.refl base b w).alloc hle _).trans (hk1.mono (by simp;omega))
 have d2:w1.cell? ⟨b,2,none⟩=some (.string s.hand):=run_cell HS1.out.run 2
 have e2:=run_free HS1.out.run 2
 have hz1:w.heap.size+1<=w1.heap.size:=by have:=hk1.size;simpa using this
 have hle1:base<=w1.heap.size:=by omega
 have hlt1:b<w1.heap.size:=by omega
 clear h1 hk1 HRW x0 x1 y0 y1 c2 f2
 by_cases h4:y.code=4
 · have HQ:Hid (y.code=4):=h4
   have hcc:(y.code==0)=false:=by rw [h4];rfl
   have hc4:(y.code==4)=true:=by rw [h4];rfl
   go_wp2_with fail
   refine (c157 base b _ 4 s.hand _ (run_alloc HS1.out.run _)).mono ?_
   rintro e w2 ⟨rfl,h2,hk⟩
   have H2:Hid (RunAt w2 b _):=h2
   have HK:Hid (Kp base b w w2):=(HK1.out.alloc hle1 _).trans hk
   clear h2 hk
   go_wp2
   go_end0
   exact ⟨rfl,after_r (act_3.trans (look_3m HN.out H14.out HLR.out (by rw [HY.out];exact HQ.out))) ⟨_,H2.out,rfl,rfl⟩,HK.out⟩
 have H4:Hid (¬ y.code=4):=h4
 by_cases h5:y.code=0
 · have HQ:Hid (y.code=0):=h5
   have hcc:(y.code==0)=true:=by rw [h5];rfl
   go_wp2
   go_end0
   refine ⟨rfl,after_l (act_3.trans (look_3d HN.out H14.out HLR.out (by rw [HY.out];exact H4.out) (by rw [HY.out];exact HQ.out))) ⟨p,v,?_⟩,(HK1.out.set 2 _).alloc (by simpa using hle1) _⟩
   rw [HY.out]
   refine St.below ?_ ((Below.refl _ _).alloc (Nat.le_refl _) _)
   exact HS1.out.set 2 _ rfl rfl rfl
 have HQ:Hid (¬ y.code=0):=h5
 have hcc:(y.code==0)=false:=by simpa using h5
 have hc4:(y.code==4)=false:=by simpa using h4
 go_wp2_with fail
 refine (c157 base b _ 5 s.hand _ (run_alloc HS1.out.run _)).mono ?_
 rintro e w2 ⟨rfl,h2,hk⟩
 have H2:Hid (RunAt w2 b _):=h2
 have HK:Hid (Kp base b w w2):=(HK1.out.alloc hle1 _).trans hk
 clear h2 hk
 go_wp2
 go_end0
 exact ⟨rfl,after_r (act_3.trans (look_3b HN.out H14.out HLR.out (by rw [HY.out];exact H4.out) (by rw [HY.out];exact HQ.out))) ⟨_,H2.out,rfl,rfl⟩,HK.out⟩
theorem m93:MOk 168 4:=by
 intro base b arg reps a2 cap2 s tx to w hm
 obtain ⟨p,v,hS⟩:=hm.live
 have HS:Hid (St base b w (rcL p v arg (.slice a2 reps.length cap2) s.pc s.up) s.out):=hS
 have c2:w.cell? ⟨b,2,none⟩=some (.string s.hand):=run_cell hS.run 2
 have f2:=run_free hS.run 2
 have hlt:=run_lt hS.run
 have hle:=hS.le
 obtain ⟨n,rfl⟩:=Int.eq_ofNat_of_zero_le hm.to0
 have hto:=hm.to1
 have htx:=hm.htx
 have hpc:=hm.pc
 obtain ⟨g1,g2,g3,g4,g5,g6⟩:=hm.fit
 have HREP:Hid (RepAt base b w a2 reps):=hm.rep
 have hlen:=hm.len
 clear hS hm
 by_cases hn0:nameOk s.hand.data.toList=false
 · have HN:Hid (nameOk s.hand.data.toList=false):=hn0
   clear hn0
   have HRW:RunAt (w.alloc (.cells #[.int .i64 4,.string tx,.int .i64 n] 183)) b (rcL p v arg (.slice a2 reps.length cap2) s.pc s.up):=run_alloc HS.out.run _
   go_enter func168,ntmps168
   go_wp2_with fail
   refine (c184a b _ true _ HRW g1 HN.out).mono ?_
   rintro e w1 ⟨rfl,h1,hk1⟩
   have H1:Hid (RunAt w1 b _):=h1
   have HK1:Hid (Kp base b w w1):=((Kp.refl base b w).alloc hle _).trans (hk1.mono (by simp;omega))
   have hle1:base<=w1.heap.size:=Nat.le_trans hle HK1.out.size
   clear h1 hk1 HRW
   go_wp2
   refine bodyPost_ret (results_none rfl _ _ _) rfl ?_
   exact ⟨rfl,after_r (act_4.trans (look_noname HN.out)) ⟨_,run_alloc H1.out _,rfl,rfl⟩,HK1.out.alloc hle1 _⟩
 have HN:Hid (nameOk s.hand.data.toList=true):=by simpa [Hid] using hn0
 clear hn0
 by_cases hl14:14<=s.looks
 · have HQ:Hid (14<=s.looks):=hl14
   have HRW:RunAt (w.alloc (.cells #[.int .i64 4,.string tx,.int .i64 n] 183)) b (rcL p v arg (.slice a2 reps.length cap2) s.pc s.up):=run_alloc HS.out.run _
   go_enter func168,ntmps168
   go_wp2_with fail
   refine (c184b b _ true _ HRW g1 HN.out (by show ((s.looks:Nat):Int)=14;omega)).mono ?_
   rintro e w1 ⟨rfl,h1,hk1⟩
   have H1:Hid (RunAt w1 b _):=h1
   have HK1:Hid (Kp base b w w1):=((Kp.refl base b w).alloc hle _).trans (hk1.mono (by simp;omega))
   have hle1:base<=w1.heap.size:=Nat.le_trans hle HK1.out.size
   clear h1 hk1 HRW
   go_wp2
   refine bodyPost_ret (results_none rfl _ _ _) rfl ?_
   exact ⟨rfl,after_r (act_4.trans (look_spent HN.out HQ.out)) ⟨_,run_alloc H1.out _,rfl,rfl⟩,HK1.out.alloc hle1 _⟩
 have H14:Hid (¬ 14<=s.looks):=hl14
 by_cases hlr:reps.length<=s.looks
 · have HQ:Hid (reps.length<=s.looks):=hlr
   have heq:s.looks=reps.length:=by omega
   have HRW:RunAt (w.alloc (.cells #[.int .i64 4,.string tx,.int .i64 n] 183)) b (rcL p v arg (.slice a2 reps.length cap2) s.pc s.up):=run_alloc HS.out.run _
   go_enter func168,ntmps168
   go_wp2_with fail
   refine (c184c b _ true _ HRW g1 HN.out a2 reps.length cap2 (by show ((s.looks:Nat):Int)=_;rw [heq]) (by omega) rfl).mono ?_
   rintro e w1 ⟨rfl,h1,hk1⟩
   have H1:Hid (RunAt w1 b _):=h1
   have HK1:Hid (Kp base b w w1):=((Kp.refl base b w).alloc hle _).trans (hk1.mono (by simp;omega))
   have hle1:base<=w1.heap.size:=Nat.le_trans hle HK1.out.size
   clear h1 hk1 HRW
   go_wp2
   refine bodyPost_ret (results_none rfl _ _ _) rfl ?_
   exact ⟨rfl,after_r (act_4.trans (look_stop HN.out H14.out HQ.out)) ⟨_,run_alloc H1.out _,rfl,rfl⟩,HK1.out.alloc hle1 _⟩
 have HLR:Hid (¬ reps.length<=s.looks):=hlr
 have hlk:s.looks<reps.length:=by omega
 rcases HREP.out with hss | ⟨rb,roff,ha2,hrb,hrne,hcell⟩
 · rw [hss] at hlk;exact absurd hlk (Nat.not_lt_zero _)
 subst ha2
 obtain ⟨x0,x1⟩:=hcell s.looks hlk
 have hrb':rb<w.heap.size:=by omega
 have y0:=past (p:=⟨rb,roff+s.looks*2,none⟩) hrb' x0
 have y1:=past (p:=⟨rb,roff+s.looks*2+1,none⟩) hrb' x1
 generalize hy:reps.getD s.looks r2z=y at*
 have HY:Hid (reps.getD s.looks r2z=y):=hy
 clear hy hcell HREP hl14 hlr
 have HRW:RunAt (w.alloc (.cells #[.int .i64 4,.string tx,.int .i64 n] 183)) b (rcL p v arg (.slice (some ⟨rb,roff,none⟩) reps.length cap2) s.pc s.up):=run_alloc HS.out.run _
 go_enter func168,ntmps168
 go_wp2_with fail
 refine (c184d b _ true _ HRW g1 HN.out rb roff reps.length cap2 s.looks y rfl (by omega) hlk rfl hlen (by simp;omega) (y0 _) (y1 _)).mono ?_
 rintro e w1 ⟨rfl,h1,hk1⟩
 have HS1:Hid (St base b w1 (rcL p v arg (.slice (some ⟨rb,roff,none⟩) reps.length cap2) s.pc ⟨s.hand,s.out,s.pc+1,s.looks+1,s.steps+1⟩) s.out):=(HS.out.below ((Below.refl _ _).alloc (Nat.le_refl _) (.cells #[.int .i64 4,.string tx,.int .i64 n] 183))).kp hk1 h1 rfl rfl
 have HK1:Hid (Kp base b w w1):=((Kp.refl base b w).alloc hle _).trans (hk1.mono (by simp;omega))
 have d2:w1.cell? ⟨b,2,none⟩=some (.string s.hand):=run_cell HS1.out.run 2
 have e2:=run_free HS1.out.run 2
 have hz1:w.heap.size+1<=w1.heap.size:=by have:=hk1.size;simpa using this
 have hle1:base<=w1.heap.size:=by omega
 have hlt1:b<w1.heap.size:=by omega
 clear h1 hk1 HRW x0 x1 y0 y1 c2 f2
 by_cases h4:y.code=4
 · have HQ:Hid (y.code=4):=h4
   have hc4:(y.code==4)=true:=by rw [h4];rfl
   go_wp2
   go_end0
   refine ⟨rfl,after_l (act_4.trans (look_4y HN.out H14.out HLR.out (by rw [HY.out];exact HQ.out))) ⟨p,v,?_⟩,((HK1.out.set 2 _).set 2 _).alloc (by simpa using hle1) _⟩
   refine St.below ?_ ((Below.refl _ _).alloc (Nat.le_refl _) _)
   have h1:St base b (w1.setCell ⟨b,2,none⟩ (.string ⟨#[49]⟩)) (rcL p v arg (.slice (some ⟨rb,roff,none⟩) reps.length cap2) s.pc ⟨⟨#[49]⟩,s.out,s.pc+1,s.looks+1,s.steps+1⟩) s.out:=HS1.out.set 2 _ rfl rfl rfl
   exact h1.set 2 _ rfl rfl rfl
 have HQ:Hid (¬ y.code=4):=h4
 have hc4:(y.code==4)=false:=by simpa using h4
 go_wp2
 go_end0
 refine ⟨rfl,after_l (act_4.trans (look_4n HN.out H14.out HLR.out (by rw [HY.out];exact HQ.out))) ⟨p,v,?_⟩,(HK1.out.set 2 _).alloc (by simpa using hle1) _⟩
 refine St.below ?_ ((Below.refl _ _).alloc (Nat.le_refl _) _)
 exact HS1.out.set 2 _ rfl rfl rfl
theorem m94:MOk 169 5:=by
 intro base b arg reps a2 cap2 s tx to w hm
 obtain ⟨p,v,hS⟩:=hm.live
 have HS:Hid (St base b w (rcL p v arg (.slice a2 reps.length cap2) s.pc s.up) s.out):=hS
 have c2:w.cell? ⟨b,2,none⟩=some (.string s.hand):=run_cell hS.run 2
 have hlt:=run_lt hS.run
 have hle:=hS.le
 obtain ⟨n,rfl⟩:=Int.eq_ofNat_of_zero_le hm.to0
 have hto:=hm.to1
 have htx:=hm.htx
 have hpc:=hm.pc
 obtain ⟨g1,g2,g3,g4,g5,g6⟩:=hm.fit
 clear hS hm
 have HSA:=HS.out.below ((Below.refl _ w).alloc (Nat.le_refl _) (.cells #[.int .i64 5,.string tx,.int .i64 n] 183)).drew
 have HA:Hid (St base b _ _ s.out):=HSA
 clear HSA
 have hwr:IntKind.i64.wrap ((s.out.length:Int)+(s.hand.size:Int))=(s.out.length:Int)+(s.hand.size:Int):=by simp [IntKind.wrap,IntKind.signed,IntKind.bits];omega
 by_cases h300:300<s.out.length+s.hand.size
 · have HQ:Hid (300<s.out.length+s.hand.size):=h300
   go_enter func169,ntmps169
   go_wp2_with fail
   go_region_with (go_at_call 185;refine (c185e base b _ s.out _ HA.out).mono ?_;rintro e w1 ⟨rfl,hw⟩;obtain rfl:=hw.symm)
   all_goals
    go_wp2_with fail
    have HRW:RunAt (w.alloc (.cells #[.int .i64 5,.string tx,.int .i64 n] 183)).drew b (rcL p v arg (.slice a2 reps.length cap2) s.pc s.up):=run_alloc HS.out.run _
    refine (c156 base b _ s.pc _ HRW rfl (by omega)).mono ?_
    rintro e w2 ⟨rfl,h2,hk⟩
    have H2:Hid (RunAt w2 b _):=h2
    have HK:Hid (Kp base b w w2):=(((Kp.refl base b w).alloc hle _).drew).trans hk
    clear h2 hk HRW
    go_wp2
    refine bodyPost_ret (results_none rfl _ _ _) rfl ?_
    exact ⟨rfl,after_r (act_5y HQ.out) ⟨_,H2.out,rfl,rfl⟩,HK.out⟩
 have HQ:Hid (¬ 300<s.out.length+s.hand.size):=h300
 have hcmp:(s.out.length:Int)+(s.hand.size:Int)<=300:=by omega
 go_enter func169,ntmps169
 go_wp2_with fail
 go_region_with (go_at_call 185;refine (c185e base b _ s.out _ HA.out).mono ?_;rintro e w1 ⟨rfl,hw⟩;obtain rfl:=hw.symm)
 all_goals
  have HA2:Hid (St base b (w.alloc (.cells #[.int .i64 5,.string tx,.int .i64 n] 183)).drew.drew _ s.out):=HA.out.below (Below.refl _ _).drew
  go_wp2_with fail
  go_region_with (go_at_call 186;refine (c186e base b _ s.out s.hand _ HA2.out (by omega)).mono ?_;rintro e w2 ⟨rfl,⟨v2,h2⟩,hk⟩;have H2:Hid (St base b w2 _ _):=h2;have HK:Hid (Kp base b w w2):=((Kp.refl base b w).alloc hle _).drew.drew.trans hk;clear h2 hk)
  all_goals
   go_wp2
   go_end0
   exact ⟨rfl,after_l (act_5n HQ.out) ⟨_,v2,H2.out⟩,HK.out⟩
theorem m95:MOk 170 6:=by
 intro base b arg reps a2 cap2 s tx to w hm
 obtain ⟨p,v,hS⟩:=hm.live
 have HS:Hid (St base b w (rcL p v arg (.slice a2 reps.length cap2) s.pc s.up) s.out):=hS
 have c2:w.cell? ⟨b,2,none⟩=some (.string s.hand):=run_cell hS.run 2
 have f2:=run_free hS.run 2
 have hlt:=run_lt hS.run
 have hle:=hS.le
 obtain ⟨n,rfl⟩:=Int.eq_ofNat_of_zero_le hm.to0
 have hto:=hm.to1
 have htx:=hm.htx
 have hpc:=hm.pc
 obtain ⟨g1,g2,g3,g4,g5,g6⟩:=hm.fit
 clear hS hm
 by_cases h300:300<s.hand.size+tx.size
 · have HQ:Hid (300<s.hand.size+tx.size):=h300
   go_enter func170,ntmps170
   go_wp2_with fail
   go_region
   go_wp2_with fail
   have HRW:RunAt (w.alloc (.cells #[.int .i64 6,.string tx,.int .i64 n] 183)).drew b (rcL p v arg (.slice a2 reps.length cap2) s.pc s.up):=run_alloc HS.out.run _
   refine (c156 base b _ s.pc _ HRW rfl (by omega)).mono ?_
   rintro e w2 ⟨rfl,h2,hk⟩
   have H2:Hid (RunAt w2 b _):=h2
   have HK:Hid (Kp base b w w2):=(((Kp.refl base b w).alloc hle _).drew).trans hk
   clear h2 hk HRW
   go_wp2
   refine bodyPost_ret (results_none rfl _ _ _) rfl ?_
   exact ⟨rfl,after_r (act_6y HQ.out) ⟨_,H2.out,rfl,rfl⟩,HK.out⟩
 have HQ:Hid (¬ 300<s.hand.size+tx.size):=h300
 go_enter func170,ntmps170
 go_wp2_with fail
 go_region
 go_wp2_with fail
 go_region
 go_wp2
 go_end0
 refine ⟨rfl,after_l (act_6n HQ.out) ⟨p,v,?_⟩,(((Kp.refl base b w).set 2 _).alloc (by simpa using hle) _).drew.drew⟩
 refine St.below ?_ (((Below.refl _ _).alloc (Nat.le_refl _) _).drew.drew)
 exact HS.out.set 2 _ rfl rfl rfl
theorem m96:MOk 171 7:=by
 intro base b arg reps a2 cap2 s tx to w hm
 obtain ⟨p,v,hS⟩:=hm.live
 have HS:Hid (St base b w (rcL p v arg (.slice a2 reps.length cap2) s.pc s.up) s.out):=hS
 have c2:w.cell? ⟨b,2,none⟩=some (.string s.hand):=run_cell hS.run 2
 have f2:=run_free hS.run 2
 have hlt:=run_lt hS.run
 have hle:=hS.le
 obtain ⟨n,rfl⟩:=Int.eq_ofNat_of_zero_le hm.to0
 have hto:=hm.to1
 have htx:=hm.htx
 have hpc:=hm.pc
 obtain ⟨g1,g2,g3,g4,g5,g6⟩:=hm.fit
 have HMX:Hid (MaxAt w):=hm.max.2.2
 clear hS hm
 obtain ⟨hc1,hc2⟩:=cut_len 10 s.hand.data.toList
 have hln:s.hand.data.toList.length=s.hand.size:=by simp
 have hc3:(cutS 10 s.hand.data.toList).length<=400:=by omega
 have HTY:Hid (n<(cutS 10 s.hand.data.toList).length->lineAt s.hand (n:Int)=ofL ((cutS 10 s.hand.data.toList).getD n [])):=fun h=>by unfold lineAt;rw [if_pos (by omega)];rfl
 have HTN:Hid (¬ n<(cutS 10 s.hand.data.toList).length->lineAt s.hand (n:Int)=⟨#[]⟩):=fun h=>by unfold lineAt;rw [if_neg (by omega)]
 clear hc2 hln
 go_enter func171,ntmps171
 go_wp2_with fail
 refine (c187 s.hand _ (by omega) (max_below HMX.out ((Below.refl _ _).alloc (Nat.le_refl _) _))).mono ?_
 rintro e w1 ⟨⟨rfl,hl⟩,hb1⟩
 have hBx:Below w.heap.size w w1:=((Below.refl _ _).alloc (Nat.le_refl _) _).trans (hb1.mono (by simp))
 have HL:Hid (LinesAt w1 _ (cutS 10 s.hand.data.toList)):=hl
 have HS1:Hid (St base b w1 (rcL p v arg (.slice a2 reps.length cap2) s.pc s.up) s.out):=HS.out.below hBx
 have d2:w1.cell? ⟨b,2,none⟩=some (.string s.hand):=run_cell HS1.out.run 2
 have e2:=run_free HS1.out.run 2
 have i2:w1.cell? ⟨w.heap.size,2,none⟩=some (.int .i64 n):=by rw [hb1.cell (by simp)];simp
 have hz1:w.heap.size+1<=w1.heap.size:=by have:=hb1.size;simpa using this
 have HK1:Hid (Kp base b w w1):=Kp.of_below hBx hle
 have hlg:=hl.1
 have hne:b≠w.heap.size+1:=by omega
 clear hl hb1 hBx c2 f2
 generalize hLL:cutS 10 s.hand.data.toList=L at*
 clear hLL
 by_cases hin:n<L.length
 · have l0:w1.cell? ⟨w.heap.size+1,n,none⟩=some (.string (ofL (L.getD n []))):=by have:=HL.out.2 n hin;simpa using this
   have HT':Hid (lineAt s.hand (n:Int)=ofL (L.getD n [])):=HTY.out hin
   clear HTY HTN
   generalize L.getD n []=ln at*
   go_wp2
   go_end0
   refine ⟨rfl,after_l act_7 ⟨p,v,?_⟩,(HK1.out.set 2 _).set 2 _⟩
   rw [HT'.out]
   have h1:St base b (w1.setCell ⟨b,2,none⟩ (.string ⟨#[]⟩)) (rcL p v arg (.slice a2 reps.length cap2) s.pc ⟨⟨#[]⟩,s.out,s.pc+1,s.looks,s.steps+1⟩) s.out:=HS1.out.set 2 _ rfl rfl rfl
   exact h1.set 2 _ rfl rfl rfl
 have HT':Hid (lineAt s.hand (n:Int)=⟨#[]⟩):=HTN.out hin
 clear HTY HTN
 go_wp2
 go_end0
 refine ⟨rfl,after_l act_7 ⟨p,v,?_⟩,HK1.out.set 2 _⟩
 rw [HT'.out]
 exact HS1.out.set 2 _ rfl rfl rfl
theorem m97:MOk 172 8:=by
 intro base b arg reps a2 cap2 s tx to w hm
 obtain ⟨p,v,hS⟩:=hm.live
 have HS:Hid (St base b w (rcL p v arg (.slice a2 reps.length cap2) s.pc s.up) s.out):=hS
 have c2:w.cell? ⟨b,2,none⟩=some (.string s.hand):=run_cell hS.run 2
 have cx7:w.cell? ⟨b,7,none⟩=some (.int .i64 (s.pc+1:Nat)):=run_cell hS.run 7
 have f7:=run_free hS.run 7
 have hlt:=run_lt hS.run
 have hle:=hS.le
 obtain ⟨n,rfl⟩:=Int.eq_ofNat_of_zero_le hm.to0
 have hto:=hm.to1
 have htx:=hm.htx
 have hpc:=hm.pc
 obtain ⟨g1,g2,g3,g4,g5,g6⟩:=hm.fit
 clear hS hm
 by_cases heq:s.hand.data.toList=tx.data.toList
 · have HQ:Hid (s.hand.data.toList=tx.data.toList):=heq
   have heq':(s.hand.toList==tx.toList)=true:=by rw [ByteArray.toList_eq,ByteArray.toList_eq];simpa using heq
   clear heq
   go_enter func172,ntmps172
   go_wp2_with fail
   go_region
   go_wp2
   go_end0
   refine ⟨rfl,after_l (act_8y HQ.out) ⟨p,v,?_⟩,(((Kp.refl base b w).set 7 _).alloc (by simpa using hle) _).drew⟩
   refine St.below ?_ (((Below.refl _ _).alloc (Nat.le_refl _) _).drew)
   exact HS.out.set 7 _ rfl rfl rfl
 have HQ:Hid (¬ s.hand.data.toList=tx.data.toList):=heq
 have heq':(s.hand.toList==tx.toList)=false:=by rw [ByteArray.toList_eq,ByteArray.toList_eq];simpa using heq
 clear heq
 go_enter func172,ntmps172
 go_wp2_with fail
 go_region
 go_wp2
 go_end0
 refine ⟨rfl,after_l (act_8n HQ.out) ⟨p,v,?_⟩,((Kp.refl base b w).alloc hle _).drew⟩
 exact HS.out.below ((Below.refl _ _).alloc (Nat.le_refl _) _).drew
theorem m98:MOk 173 9:=by
 intro base b arg reps a2 cap2 s tx to w hm
 obtain ⟨p,v,hS⟩:=hm.live
 have HS:Hid (St base b w (rcL p v arg (.slice a2 reps.length cap2) s.pc s.up) s.out):=hS
 have cx7:w.cell? ⟨b,7,none⟩=some (.int .i64 (s.pc+1:Nat)):=run_cell hS.run 7
 have f7:=run_free hS.run 7
 have hlt:=run_lt hS.run
 have hle:=hS.le
 obtain ⟨n,rfl⟩:=Int.eq_ofNat_of_zero_le hm.to0
 have hto:=hm.to1
 have htx:=hm.htx
 have hpc:=hm.pc
 obtain ⟨g1,g2,g3,g4,g5,g6⟩:=hm.fit
 clear hS hm
 go_enter func173,ntmps173
 go_wp2
 go_end0
 refine ⟨rfl,after_l act_9 ⟨p,v,?_⟩,(((Kp.refl base b w).set 7 _).alloc (by simpa using hle) _)⟩
 refine St.below ?_ (((Below.refl _ _).alloc (Nat.le_refl _) _))
 exact HS.out.set 7 _ rfl rfl rfl
theorem m99:MOk 174 10:=by
 intro base b arg reps a2 cap2 s tx to w hm
 obtain ⟨p,v,hS⟩:=hm.live
 have HS:Hid (St base b w (rcL p v arg (.slice a2 reps.length cap2) s.pc s.up) s.out):=hS
 have hlt:=run_lt hS.run
 have hle:=hS.le
 obtain ⟨n,rfl⟩:=Int.eq_ofNat_of_zero_le hm.to0
 have hto:=hm.to1
 have htx:=hm.htx
 have hpc:=hm.pc
 obtain ⟨g1,g2,g3,g4,g5,g6⟩:=hm.fit
 clear hS hm
 go_enter func174,ntmps174
 go_wp2_with fail
 refine (c164e base b _ s.out _ (HS.out.below ((Below.refl _ _).alloc (Nat.le_refl _) _))).mono ?_
 rintro e w1 ⟨rfl,h1,hk1⟩
 have H1:Hid (RunAt w1 b _):=h1
 have HK1:Hid (Kp base b w w1):=((Kp.refl base b w).alloc hle _).trans hk1
 clear h1 hk1
 go_wp2_with fail
 refine (c157 base b _ 0 (ofL s.out) _ H1.out).mono ?_
 rintro e w2 ⟨rfl,h2,hk⟩
 have H2:Hid (RunAt w2 b _):=h2
 have HK:Hid (Kp base b w w2):=HK1.out.trans hk
 clear h2 hk
 go_wp2
 go_end0
 exact ⟨rfl,after_r act_10 ⟨_,H2.out,rfl,rfl⟩,HK.out⟩
theorem m100:MOk 175 11:=by
 intro base b arg reps a2 cap2 s tx to w hm
 obtain ⟨p,v,hS⟩:=hm.live
 have HS:Hid (St base b w (rcL p v arg (.slice a2 reps.length cap2) s.pc s.up) s.out):=hS
 have c2:w.cell? ⟨b,2,none⟩=some (.string s.hand):=run_cell hS.run 2
 have hlt:=run_lt hS.run
 have hle:=hS.le
 obtain ⟨n,rfl⟩:=Int.eq_ofNat_of_zero_le hm.to0
 have hto:=hm.to1
 have htx:=hm.htx
 have hpc:=hm.pc
 obtain ⟨g1,g2,g3,g4,g5,g6⟩:=hm.fit
 clear hS hm
 go_enter func175,ntmps175
 go_wp2_with fail
 have HRW:=run_alloc HS.out.run (.cells #[.int .i64 11,.string tx,.int .i64 n] 183)
 refine (c157 base b _ 1 s.hand _ HRW).mono ?_
 rintro e w2 ⟨rfl,h2,hk⟩
 have H2:Hid (RunAt w2 b _):=h2
 have HK:Hid (Kp base b w w2):=((Kp.refl base b w).alloc hle _).trans hk
 clear h2 hk HRW
 go_wp2
 go_end0
 exact ⟨rfl,after_r act_11 ⟨_,H2.out,rfl,rfl⟩,HK.out⟩
