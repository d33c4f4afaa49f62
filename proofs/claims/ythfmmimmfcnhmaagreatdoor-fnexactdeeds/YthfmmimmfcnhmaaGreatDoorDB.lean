import Derived.Test.YthfmmimmfcnhmaaGreatDoorZ49
set_option linter.unusedVariables false
set_option maxHeartbeats 8000000
set_option maxRecDepth 100000
namespace Go.Proofs.YthfmmimmfcnhmaaGreatDoor
open Go.RowKit
open G.T (lt less_trans)
def askL (ls:List M.L4) (wt:ByteArray):List ByteArray:=((ls.filter fun x=>!x.has).map (·.nm))++if wt=⟨#[]⟩ then [] else [wt]
structure Dd where
 nm:ByteArray
 md:Bool
 m:M3
 ls:List M.L4
 r:R2
 wt:ByteArray
def IsDd (E:Env) (n:ByteArray) (d:Dd):Prop:=(∃ r,E.pl n=some r/\d=⟨n,false,m3z,[],r,⟨#[]⟩⟩)\/∃ m L,m∈E.ms/\m.nm=n/\Hist E m L/\(∀ ls,Hist E m ls->ls <+:L)/\d=⟨n,true,m,L,if (tn m L).over then resOf (tn m L) else ⟨6,⟨#[]⟩⟩,if (tn m L).over then ⟨#[]⟩ else (tn m L).name⟩
theorem isDd_one {E:Env} (hE:EnvOk E) {n:ByteArray} {d d':Dd} (h:IsDd E n d) (h':IsDd E n d'):d=d':=by
 rcases h with ⟨r,h1,rfl⟩ | ⟨m,L,h1,h2,h3,h4,rfl⟩ <;> rcases h' with ⟨r',k1,rfl⟩ | ⟨m',L',k1,k2,k3,k4,rfl⟩
 · rw [h1] at k1
   obtain rfl:=Option.some.inj k1
   rfl
 · have:=(hE.made n).2 ⟨m',k1,k2⟩
   rw [h1] at this;cases this
 · have:=(hE.made n).2 ⟨m,h1,h2⟩
   rw [k1] at this;cases this
 obtain rfl:=hE.one _ _ h1 k1 (h2.trans k2.symm)
 obtain rfl:L=L':=(k4 _ h3).eq_of_length (Nat.le_antisymm (k4 _ h3).length_le (h4 _ k3).length_le)
 rfl
theorem isDd_nm {E:Env} {n:ByteArray} {d:Dd} (h:IsDd E n d):d.nm=n:=by
 rcases h with ⟨r,h1,rfl⟩ | ⟨m,L,h1,h2,h3,h4,rfl⟩ <;> rfl
theorem isDd_len {E:Env} (hE:EnvOk E) {n:ByteArray} {d:Dd} (h:IsDd E n d):d.ls.length<=15/\∀ k∈askL d.ls d.wt,nameOk k.data.toList=true:=by
 rcases h with ⟨r,h1,rfl⟩ | ⟨m,L,h1,h2,h3,h4,rfl⟩
 · exact ⟨by simp,fun k hk=>by simp [askL] at hk⟩
 have ho:=hist_ok hE (hE.ms _ h1) h3
 refine ⟨ho.1,fun k hk=>?_⟩
 unfold askL at hk
 rcases List.mem_append.1 hk with hk | hk
 · obtain ⟨x,hx,rfl⟩:=List.mem_map.1 hk
   exact (ho.2 x (List.mem_filter.1 hx).1).1
 dsimp only at hk
 cases hov:(tn m L).over
 · rw [hov] at hk
   simp only [Bool.false_eq_true,if_false] at hk
   split at hk
   · cases hk
   rw [List.mem_singleton.1 hk]
   exact ((hist_inv hE h3 (hE.ms _ h1)).name hov).1
 rw [hov] at hk
 simp at hk
def Ask (E:Env) (n k:ByteArray):Prop:=∃ d,IsDd E n d/\k∈askL d.ls d.wt
inductive Rch (E:Env) (n0:ByteArray):ByteArray->Prop
 | base:Rch E n0 n0
 | step {n k:ByteArray}:Rch E n0 n->Ask E n k->Rch E n0 k
theorem rch_ok {E:Env} (hE:EnvOk E) {n0 k:ByteArray} (h0:nameOk n0.data.toList=true) (h:Rch E n0 k):nameOk k.data.toList=true:=by
 cases h with
 | base=>exact h0
 | step _ ha=>obtain ⟨d,h1,h2⟩:=ha;exact (isDd_len hE h1).2 _ h2
theorem askL_len (ls:List M.L4) (wt:ByteArray):(askL ls wt).length<=ls.length+1:=by
 unfold askL
 rw [List.length_append,List.length_map]
 have:=List.length_filter_le (fun x:M.L4=>!x.has) ls
 split <;> simp <;> omega
theorem fm_len {α β:Type} (F:α->List β) (B:Nat):∀ l:List α,(∀ x∈l,(F x).length<=B)->(l.flatMap F).length<=B*l.length
 | [],_=>by simp
 | x::r,h=>by
  have:=fm_len F B r (fun y hy=>h y (List.mem_cons_of_mem _ hy))
  have:=h x (List.mem_cons_self ..)
  rw [List.flatMap_cons,List.length_append,List.length_cons,Nat.mul_succ]
  omega
open Classical in
theorem rch_len {E:Env} (hE:EnvOk E) (hms:E.ms.length<=30) {n0:ByteArray} {N:List ByteArray} (hn:N.Nodup) (h:∀ k∈N,Rch E n0 k):N.length<=481:=by
 have key:=nodup_len hn (l':=n0::E.ms.flatMap fun m=>if h:∃ d,IsDd E m.nm d then askL h.choose.ls h.choose.wt else []) (fun k hk=>by
  cases h k hk with
  | base=>exact List.mem_cons_self ..
  | @step n _ _ ha=>
   obtain ⟨d,h1,h2⟩:=ha
   refine List.mem_cons_of_mem _ (List.mem_flatMap.2 ?_)
   rcases h1 with ⟨r,_,rfl⟩ | ⟨m,L,q1,q2,q3,q4,q5⟩
   · simp [askL] at h2
   refine ⟨m,q1,?_⟩
   have hx:∃ d,IsDd E m.nm d:=⟨d,.inr ⟨m,L,q1,rfl,q3,q4,by rw [q2];exact q5⟩⟩
   rw [dif_pos hx]
   have:hx.choose=d:=isDd_one hE hx.choose_spec (.inr ⟨m,L,q1,rfl,q3,q4,by rw [q2];exact q5⟩)
   rw [this];exact h2)
 have:=fm_len (fun m:M3=>if h:∃ d,IsDd E m.nm d then askL h.choose.ls h.choose.wt else []) 16 E.ms (fun m _=>by
  split
  · rename_i hx
    have:=(isDd_len hE hx.choose_spec).1
    have:=askL_len hx.choose.ls hx.choose.wt
    omega
  simp)
 rw [List.length_cons] at key
 omega
theorem less_irr:∀ a:List UInt8,Op.bytesLess a a=false
 | []=>by simp [Op.bytesLess]
 | x::r=>by simp [Op.bytesLess,less_irr r]
theorem lt_irr (a:ByteArray):lt a a=false:=less_irr _
theorem lt_tr {a b c:ByteArray} (h:lt a b=true) (h':lt b c=true):lt a c=true:=less_trans _ _ _ h h'
def AscN (l:List ByteArray):Prop:=l.Pairwise fun a b=>lt a b=true
theorem asc_nodup {l:List ByteArray} (h:AscN l):l.Nodup:=by
 refine List.Pairwise.imp (fun {a b} hab e=>?_) h
 rw [e,lt_irr] at hab;cases hab
theorem asc_eq:∀ {l l':List ByteArray},AscN l->AscN l'->(∀ k,k∈l↔k∈l')->l=l'
 | [],[],_,_,_=>rfl
 | [],b::r,_,_,h=>by have:=(h b).2 (List.mem_cons_self ..);cases this
 | a::r,[],_,_,h=>by have:=(h a).1 (List.mem_cons_self ..);cases this
 | a::r,b::s,h1,h2,h=>by
  have h1':=List.pairwise_cons.1 h1
  have h2':=List.pairwise_cons.1 h2
  have hab:a=b:=by
   rcases List.mem_cons.1 ((h a).1 (List.mem_cons_self ..)) with e | ha
   · exact e
   rcases List.mem_cons.1 ((h b).2 (List.mem_cons_self ..)) with e | hb
   · exact e.symm
   have:=lt_tr (h1'.1 b hb) (h2'.1 a ha)
   rw [lt_irr] at this;cases this
  subst hab
  rw [asc_eq h1'.2 h2'.2 fun k=>?_]
  constructor
  · intro hk
    rcases List.mem_cons.1 ((h k).1 (List.mem_cons_of_mem _ hk)) with e | hk'
    · have:=h1'.1 k hk
      rw [e,lt_irr] at this;cases this
    exact hk'
  intro hk
  rcases List.mem_cons.1 ((h k).2 (List.mem_cons_of_mem _ hk)) with e | hk'
  · have:=h2'.1 k hk
    rw [e,lt_irr] at this;cases this
  exact hk'
structure IsDs (E:Env) (n0:ByteArray) (ds:List Dd):Prop where
 asc:AscN (ds.map (·.nm))
 ok:∀ d∈ds,IsDd E d.nm d
 mem:∀ k,k∈ds.map (·.nm)↔Rch E n0 k
theorem isDs_one {E:Env} (hE:EnvOk E) {n0:ByteArray} {ds ds':List Dd} (h:IsDs E n0 ds) (h':IsDs E n0 ds'):ds=ds':=by
 have e:=asc_eq h.asc h'.asc (fun k=>(h.mem k).trans (h'.mem k).symm)
 have hl:ds.length=ds'.length:=by simpa using congrArg List.length e
 refine List.ext_getElem hl fun i h1 h2=>?_
 have hi:(ds.map (·.nm))[i]?=(ds'.map (·.nm))[i]?:=by rw [e]
 rw [List.getElem?_map,List.getElem?_map,List.getElem?_eq_getElem h1,List.getElem?_eq_getElem h2] at hi
 have hn:ds[i].nm=ds'[i].nm:=Option.some.inj hi
 have k:=h'.ok _ (List.getElem_mem h2)
 rw [<- hn] at k
 exact isDd_one hE (h.ok _ (List.getElem_mem h1)) k
theorem isDs_len {E:Env} (hE:EnvOk E) (hms:E.ms.length<=30) {n0:ByteArray} {ds:List Dd} (h:IsDs E n0 ds):ds.length<=481:=by
 have:=rch_len hE hms (asc_nodup h.asc) (fun k hk=>(h.mem k).1 hk)
 simpa using this
open G.T (lt)
variable {w:World} {l:List ByteArray} {b s:ByteArray}
def nmC (l:List ByteArray):List Value:=l.map .string
theorem nmC_one (l:List ByteArray):∀ u∈nmC l,u.oneCell'=true:=fun u hu=>by
 obtain ⟨s,_,rfl⟩:=List.mem_map.1 hu
 rfl
def NmsAt (w:World) (a:Option Addr) (l:List ByteArray):Prop:=l=[]\/∃ b off,a=some ⟨b,off,none⟩/\b<w.heap.size/\∀ i,i<l.length->w.cell? ⟨b,off+i,none⟩=some (.string (l.getD i ⟨#[]⟩))
theorem nms_some {a:Option Addr} (h:NmsAt w a l):∃ b off,(l=[]\/(a=some ⟨b,off,none⟩/\b<w.heap.size/\∀ i,i<l.length->w.cell? ⟨b,off+i,none⟩=some (.string (l.getD i ⟨#[]⟩)))):=by
 rcases h with h | ⟨b,off,h⟩
 · exact ⟨0,0,.inl h⟩
 exact ⟨b,off,.inr h⟩
theorem row_nms {base:Nat} {v:Value} (h:w.ownsRow base 9 1 v l.length (nmC l)):∃ a c,v=.slice a l.length c/\NmsAt w a l:=by
 obtain ⟨a,c,h1,h2⟩:=row1_form h
 refine ⟨a,c,h1,?_⟩
 cases l with
 | nil=>exact .inl rfl
 | cons x r=>
  obtain ⟨g,ha,h0⟩:=h2 0 (.string x) rfl
  subst ha
  refine .inr ⟨g,0,rfl,?_,fun i hi=>?_⟩
  · exact (h.lt g (by rw [h1];rfl)).2
  obtain ⟨g',ha,hc⟩:=h2 i (.string ((x::r).getD i ⟨#[]⟩)) (by
   unfold nmC
   rw [List.getElem?_map,List.getElem?_eq_getElem hi]
   simp [List.getD,List.getElem?_eq_getElem hi])
  injection ha with ha
  injection ha with ha
  subst ha
  rw [Nat.zero_add];exact hc
def memB (l:List ByteArray) (s:ByteArray):Bool:=l.any fun x=>decide (x=s)
theorem memB_iff:memB l s=true↔s∈l:=by
 simp [memB]
theorem c53 (a:Option Addr) (cap:Nat) (l:List ByteArray) (s:ByteArray) (w:World) (hl:l.length<=1000) (hat:NmsAt w a l):
 Calls Tryz.prog 53 #[.slice a l.length cap,.string s] w fun e w'=>e=.returned (.bool (memB l s))/\w'=w:=by
 obtain ⟨b,off,hc⟩:=nms_some hat
 have HC:=hidI hc
 clear hat hc
 go_enter Tryz.func53,Tryz.ntmps53
 go_wp2_with fail
 go_loopw [5] (fun vi wr=>∃ k:Nat,k<=l.length/\vi=.int .i64 k/\wr=w/\Hid (∀ j,j<k->l.getD j ⟨#[]⟩≠s)) (fun vi _=>l.length - (intOf vi).toNat)
 case atStart=>exact ⟨0,Nat.zero_le _,rfl,rfl,fun j h=>absurd h (Nat.not_lt_zero _)⟩
 obtain ⟨k,hk,rfl,rfl,hd⟩:=hrel
 by_cases hlt:k<l.length
 rotate_left
 · have HR:Hid (memB l s=false):=by
    show _=_
    rw [<- Bool.not_eq_true,memB_iff]
    intro hm
    obtain ⟨j,hj,rfl⟩:=List.getElem_of_mem hm
    exact hd.out j (by omega) (by simp [List.getD,List.getElem?_eq_getElem hj])
   clear hd
   go_wp2
   go_ret
   exact ⟨by rw [HR.out];rfl,rfl⟩
 rcases HC.out with hss | ⟨ha,hbw,hcell⟩
 · rw [hss] at hlt;exact absurd hlt (Nat.not_lt_zero _)
 subst ha
 have g0:=hcell k hlt
 have HM:Hid (l.getD k ⟨#[]⟩∈l):=by show _∈_;simp [List.getD,List.getElem?_eq_getElem hlt]
 have HD:Hid (l.getD k ⟨#[]⟩≠s->∀ j,j<k+1->l.getD j ⟨#[]⟩≠s):=fun h j hj=>by
  rcases Nat.lt_or_ge j k with h1 | h1
  · exact hd.out j h1
  obtain rfl:j=k:=by omega
  exact h
 generalize l.getD k ⟨#[]⟩=x at*
 clear hcell
 cases hq:(x.toList==s.toList)
 rotate_left
 · have hnm:x=s:=by
    have:=beq_iff_eq.1 hq
    rw [ByteArray.toList_eq,ByteArray.toList_eq] at this
    exact ByteArray.ext (Array.toList_inj.1 this)
   subst hnm
   have HR:Hid (memB l x=true):=memB_iff.2 HM.out
   clear HD hd HM
   go_wp2
   go_ret
   exact ⟨by rw [HR.out];rfl,rfl⟩
 have hnm:x≠s:=fun e=>by rw [e] at hq;simp at hq
 have HD':=hidI (HD.out hnm)
 clear HD hd HM
 go_wp2
 go_roundw
 case rel=>exact ⟨k+1,by omega,by go_num,trivial,HD'⟩
 case measure=>simp [intOf];omega
def kP:List ByteArray->ByteArray->Nat
 | [],_=>0
 | a::r,s=>if lt a s=true then kP r s+1 else 0
def putN (l:List ByteArray) (s:ByteArray):List ByteArray:=if l[kP l s]?=some s then l else l.take (kP l s)++[s]++l.drop (kP l s)
theorem kP_le:∀ (l:List ByteArray) (s:ByteArray),kP l s<=l.length
 | [],_=>Nat.le_refl _
 | a::r,s=>by
  unfold kP
  have:=kP_le r s
  split <;> simp <;> omega
theorem kP_eq:∀ (l:List ByteArray) (s:ByteArray) (k:Nat),k<=l.length->(∀ j,j<k->lt (l.getD j ⟨#[]⟩) s=true)->(k<l.length->lt (l.getD k ⟨#[]⟩) s=false)->kP l s=k
 | [],s,k,h,_,_=>by simp at h;subst h;rfl
 | a::r,s,0,_,_,h3=>by
  have:=h3 (by simp)
  have:lt a s=false:=this
  unfold kP
  rw [if_neg (by rw [this];simp)]
 | a::r,s,k+1,h1,h2,h3=>by
  have h0:lt a s=true:=h2 0 (by omega)
  unfold kP
  rw [if_pos h0,kP_eq r s k (by simpa using h1) (fun j hj=>h2 (j+1) (by omega)) (fun h=>h3 (by simpa using h))]
theorem kP_lt:∀ (l:List ByteArray) (s:ByteArray) (j:Nat),j<kP l s->lt (l.getD j ⟨#[]⟩) s=true
 | [],_,_,h=>by simp [kP] at h
 | a::r,s,j,h=>by
  unfold kP at h
  split at h
  · cases j with
    | zero=>assumption
    | succ j=>exact kP_lt r s j (by omega)
  omega
theorem kP_ge:∀ (l:List ByteArray) (s:ByteArray),kP l s<l.length->lt (l.getD (kP l s) ⟨#[]⟩) s=false
 | [],_,h=>by simp at h
 | a::r,s,h=>by
  unfold kP at h ⊢
  by_cases hl:lt a s=true
  · rw [if_pos hl] at h ⊢
    exact kP_ge r s (by simpa using h)
  rw [if_neg hl]
  simpa using hl
theorem putN_mem (l:List ByteArray) (s k:ByteArray):k∈putN l s↔k∈l\/k=s:=by
 unfold putN
 split
 · rename_i h
   exact ⟨.inl,fun h'=>h'.elim id fun e=>e▸List.mem_of_getElem? h⟩
 rw [List.mem_append,List.mem_append,List.mem_singleton]
 have:k∈l↔k∈l.take (kP l s)\/k∈l.drop (kP l s):=by rw [<- List.mem_append,List.take_append_drop]
 rw [this]
 constructor
 · rintro ((h | h) | h)
   · exact .inl (.inl h)
   · exact .inr h
   exact .inl (.inr h)
 rintro ((h | h) | h)
 · exact .inl (.inl h)
 · exact .inr h
 exact .inl (.inr h)
theorem putN_len (l:List ByteArray) (s:ByteArray):l.length<=(putN l s).length/\(putN l s).length<=l.length+1:=by
 unfold putN
 split
 · omega
 simp;omega
theorem less_tot:∀ a b:List UInt8,a≠b->Op.bytesLess a b=false->Op.bytesLess b a=true
 | [],[],h,_=>absurd rfl h
 | [],_::_,_,h=>by simp [Op.bytesLess] at h
 | _::_,[],_,_=>by simp [Op.bytesLess]
 | x::r,y::s,h,h'=>by
  simp only [Op.bytesLess] at h' ⊢
  by_cases e:x=y
  · subst e
    have:=less_tot r s (fun c=>h (by rw [c])) (by simpa using h')
    simpa using this
  have e1:x.toNat≠y.toNat:=fun c=>e (UInt8.toNat_inj.1 c)
  simp [e,Ne.symm e,UInt8.lt_iff_toNat_lt] at h' ⊢
  omega
theorem lt_tot {a:ByteArray} (h:a≠b) (h':lt a b=false):lt b a=true:=less_tot _ _ (fun c=>h (by rw [ByteArray.toList_eq,ByteArray.toList_eq] at c;exact ByteArray.ext (Array.toList_inj.1 c))) h'
theorem putN_asc (h:AscN l) (s:ByteArray):AscN (putN l s):=by
 unfold putN
 split
 · exact h
 rename_i hne
 have hs:AscN (l.take (kP l s)++l.drop (kP l s)):=by rw [List.take_append_drop];exact h
 obtain ⟨h1,h2,h3⟩:=List.pairwise_append.1 hs
 have hA:∀ a∈l.take (kP l s),lt a s=true:=fun a ha=>by
  obtain ⟨j,hj,rfl⟩:=List.getElem_of_mem ha
  have hj':j<kP l s:=by have:=List.length_take_le (kP l s) l;omega
  have:=kP_lt l s j hj'
  have hjl:j<l.length:=by have:=kP_le l s;omega
  rw [List.getElem_take]
  simpa [List.getD,List.getElem?_eq_getElem hjl] using this
 have hB:∀ b∈l.drop (kP l s),lt s b=true:=fun b hb=>by
  have hk:kP l s<l.length:=by
   rcases Nat.lt_or_ge (kP l s) l.length with h | h
   · exact h
   rw [List.drop_of_length_le h] at hb;cases hb
  have h0:=kP_ge l s hk
  rw [show l.getD (kP l s) ⟨#[]⟩=l[kP l s] by simp [List.getD,List.getElem?_eq_getElem hk]] at h0
  rw [List.getElem?_eq_getElem hk] at hne
  have h4:=lt_tot (fun e=>hne (by rw [e])) h0
  rw [List.drop_eq_getElem_cons hk] at hb h2
  rcases List.mem_cons.1 hb with rfl | hb
  · exact h4
  exact lt_tr h4 ((List.pairwise_cons.1 h2).1 b hb)
 refine List.pairwise_append.2 ⟨List.pairwise_append.2 ⟨h1,List.pairwise_singleton _ _,fun a ha b hb=>?_⟩,h2,fun a ha b hb=>?_⟩
 · rw [List.mem_singleton.1 hb];exact hA a ha
 rcases List.mem_append.1 ha with ha | ha
 · exact h3 a ha b hb
 rw [List.mem_singleton.1 ha];exact hB b hb
