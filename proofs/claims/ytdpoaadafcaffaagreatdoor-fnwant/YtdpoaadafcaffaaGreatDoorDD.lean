import Derived.Test.YtdpoaadafcaffaaGreatDoorZ49
set_option linter.unusedVariables false
set_option maxHeartbeats 8000000
set_option maxRecDepth 100000
namespace Go.Proofs.YtdpoaadafcaffaaGreatDoor
open Go.RowKit
open G.T (lt Te)
def L_ (ls:List M.L4) (wt:ByteArray):List ByteArray:=((ls.filter fun x=>!x.has).map (·.nm))++if wt=⟨#[]⟩ then [] else [wt]
structure Dd where
 nm:ByteArray
 md:Bool
 m:M3
 ls:List M.L4
 r:R2
 wt:ByteArray
def Fa (E:Env) (n:ByteArray) (d:Dd):Prop:=(∃ r,E.pl n=some r/\d=⟨n,false,X6,[],r,⟨#[]⟩⟩)\/∃ m L,m∈E.ms/\m.nm=n/\V8 E m L/\(∀ ls,V8 E m ls->ls <+:L)/\d=⟨n,true,m,L,if (tn m L).over then jg (tn m L) else ⟨6,⟨#[]⟩⟩,if (tn m L).over then ⟨#[]⟩ else (tn m L).name⟩
theorem yg {E:Env} (hE:l8 E) {n:ByteArray} {d d':Dd} (h:Fa E n d) (h':Fa E n d'):d=d':=by
 rcases h with ⟨r,h1,rfl⟩ | ⟨m,L,h1,h2,h3,h4,rfl⟩ <;> rcases h' with ⟨r',k1,rfl⟩ | ⟨m',L',k1,k2,k3,k4,rfl⟩
 · rw [h1] at k1
   obtain rfl:=Option.some.inj k1;rfl
 · have:=(hE.made n).2 ⟨m',k1,k2⟩
   rw [h1] at this;cases this
 · have:=(hE.made n).2 ⟨m,h1,h2⟩
   rw [k1] at this;cases this
 obtain rfl:=hE.one _ _ h1 k1 (h2.trans k2.symm);obtain rfl:L=L':=(k4 _ h3).eq_of_length (Nat.le_antisymm (k4 _ h3).length_le (h4 _ k3).length_le);rfl
theorem Sk {E:Env} {n:ByteArray} {d:Dd} (h:Fa E n d):d.nm=n:=by
 rcases h with ⟨r,h1,rfl⟩ | ⟨m,L,h1,h2,h3,h4,rfl⟩ <;> rfl
theorem Rh {E:Env} (hE:l8 E) {n:ByteArray} {d:Dd} (h:Fa E n d):d.ls.length<=15/\∀ k∈L_ d.ls d.wt,Y1 k.data.toList=true:=by
 rcases h with ⟨r,h1,rfl⟩ | ⟨m,L,h1,h2,h3,h4,rfl⟩
 · exact ⟨U0,fun k hk=>by simp [L_] at hk⟩
 have ho:=M_ hE (hE.ms _ h1) h3;refine ⟨ho.1,fun k hk=>?_⟩;unfold L_ at hk;rcases List.mem_append.1 hk with hk | hk
 · obtain ⟨x,hx,rfl⟩:=List.mem_map.1 hk
   exact (ho.2 x (List.mem_filter.1 hx).1).1
 dsimp only at hk;cases hov:(tn m L).over
 · rw [hov] at hk
   simp only [Bool.false_eq_true,if_false] at hk;split at hk
   · cases hk
   rw [List.mem_singleton.1 hk];exact ((Y_ hE h3 (hE.ms _ h1)).name hov).1
 rw [hov] at hk;simp at hk
def Ask (E:Env) (n k:ByteArray):Prop:=∃ d,Fa E n d/\k∈L_ d.ls d.wt
inductive Xm (E:Env) (n0:ByteArray):ByteArray->Prop
 | base:Xm E n0 n0
 | step {n k:ByteArray}:Xm E n0 n->Ask E n k->Xm E n0 k
theorem Sy {E:Env} (hE:l8 E) {n0 k:ByteArray} (h0:Y1 n0.data.toList=true) (h:Xm E n0 k):Y1 k.data.toList=true:=by
 cases h with
 | base=>exact h0
 | step _ ha=>obtain ⟨d,h1,h2⟩:=ha;exact (Rh hE h1).2 _ h2
theorem Vr (ls:List M.L4) (wt:ByteArray):(L_ ls wt).length<=ls.length+1:=by
 unfold L_;rw [List.length_append,List.length_map];have:=List.length_filter_le (fun x:M.L4=>!x.has) ls;split <;> simp <;> omega
theorem qA {α β:Type} (F:α->List β) (B:Nat):∀ l:List α,(∀ x∈l,(F x).length<=B)->(l.flatMap F).length<=B*l.length
 | [],_=>U0
 | x::r,h=>by
  have:=qA F B r (fun y hy=>h y (List.mem_cons_of_mem _ hy));have:=h x (List.mem_cons_self ..);rw [List.flatMap_cons,List.length_append,List.length_cons,Nat.mul_succ];omega
open Classical in
theorem Xh {E:Env} (hE:l8 E) (hms:E.ms.length<=30) {n0:ByteArray} {N:List ByteArray} (hn:N.Nodup) (h:∀ k∈N,Xm E n0 k):N.length<=481:=by
 have key:=Sc hn (l':=n0::E.ms.flatMap fun m=>if h:∃ d,Fa E m.nm d then L_ h.choose.ls h.choose.wt else []) (fun k hk=>by
  cases h k hk with
  | base=>exact List.mem_cons_self ..
  | @step n _ _ ha=>
   obtain ⟨d,h1,h2⟩:=ha;refine List.mem_cons_of_mem _ (List.mem_flatMap.2 ?_);rcases h1 with ⟨r,_,rfl⟩ | ⟨m,L,q1,q2,q3,q4,q5⟩
   · simp [L_] at h2
   refine ⟨m,q1,?_⟩;have hx:∃ d,Fa E m.nm d:=⟨d,.inr ⟨m,L,q1,rfl,q3,q4,by rw [q2];exact q5⟩⟩;rw [dif_pos hx];have:hx.choose=d:=yg hE hx.choose_spec (.inr ⟨m,L,q1,rfl,q3,q4,by rw [q2];exact q5⟩);rw [this];exact h2)
 have:=qA (fun m:M3=>if h:∃ d,Fa E m.nm d then L_ h.choose.ls h.choose.wt else []) 16 E.ms (fun m _=>by
  split
  · rename_i hx
    have:=(Rh hE hx.choose_spec).1;have:=Vr hx.choose.ls hx.choose.wt;omega
  simp)
 rw [List.length_cons] at key;omega
theorem Wq:∀ a:List UInt8,Op.bytesLess a a=false
 | []=>by simp [Op.bytesLess]
 | x::r=>by simp [Op.bytesLess,Wq r]
theorem Uo (a:ByteArray):lt a a=false:=Wq _
theorem UE {a b c:ByteArray} (h:lt a b=true) (h':lt b c=true):lt a c=true:=Te _ _ _ h h'
def Ck (l:List ByteArray):Prop:=l.Pairwise fun a b=>lt a b=true
theorem Lg {l:List ByteArray} (h:Ck l):l.Nodup:=by
 refine List.Pairwise.imp (fun {a b} hab e=>?_) h;rw [e,Uo] at hab;cases hab
theorem NA:∀ {l l':List ByteArray},Ck l->Ck l'->(∀ k,k∈l↔k∈l')->l=l'
 | [],[],_,_,_=>rfl
 | [],b::r,_,_,h=>by have:=(h b).2 (List.mem_cons_self ..);cases this
 | a::r,[],_,_,h=>by have:=(h a).1 (List.mem_cons_self ..);cases this
 | a::r,b::s,h1,h2,h=>by
  have h1':=List.pairwise_cons.1 h1;have h2':=List.pairwise_cons.1 h2;have hab:a=b:=by
   rcases List.mem_cons.1 ((h a).1 (List.mem_cons_self ..)) with e | ha
   · exact e
   rcases List.mem_cons.1 ((h b).2 (List.mem_cons_self ..)) with e | hb
   · exact e.symm
   have:=UE (h1'.1 b hb) (h2'.1 a ha);rw [Uo] at this;cases this
  subst hab;rw [NA h1'.2 h2'.2 fun k=>?_];constructor
  · intro hk
    rcases List.mem_cons.1 ((h k).1 (List.mem_cons_of_mem _ hk)) with e | hk'
    · have:=h1'.1 k hk
      rw [e,Uo] at this;cases this
    exact hk'
  intro hk;rcases List.mem_cons.1 ((h k).2 (List.mem_cons_of_mem _ hk)) with e | hk'
  · have:=h2'.1 k hk
    rw [e,Uo] at this;cases this
  exact hk'
structure gm (E:Env) (n0:ByteArray) (ds:List Dd):Prop where
 ZT:Ck (ds.map (·.nm))
 ok:∀ d∈ds,Fa E d.nm d
 mem:∀ k,k∈ds.map (·.nm)↔Xm E n0 k
theorem Ry {E:Env} (hE:l8 E) {n0:ByteArray} {ds ds':List Dd} (h:gm E n0 ds) (h':gm E n0 ds'):ds=ds':=by
 have e:=NA h.ZT h'.ZT (fun k=>(h.mem k).trans (h'.mem k).symm);have hl:ds.length=ds'.length:=by simpa using congrArg List.length e
 refine List.ext_getElem hl fun i h1 h2=>?_;have hi:(ds.map (·.nm))[i]?=(ds'.map (·.nm))[i]?:=by rw [e]
 rw [List.getElem?_map,List.getElem?_map,List.getElem?_eq_getElem h1,List.getElem?_eq_getElem h2] at hi;have hn:ds[i].nm=ds'[i].nm:=Option.some.inj hi;have k:=h'.ok _ (List.getElem_mem h2);rw [<- hn] at k;exact yg hE (h.ok _ (List.getElem_mem h1)) k
theorem Sz {E:Env} (hE:l8 E) (hms:E.ms.length<=30) {n0:ByteArray} {ds:List Dd} (h:gm E n0 ds):ds.length<=481:=by
 have:=Xh hE hms (Lg h.ZT) (fun k hk=>(h.mem k).1 hk);simpa using this
open G.T (lt)
variable {w:World} {l:List ByteArray} {b s:ByteArray}
def Oc (l:List ByteArray):List Value:=l.map .string
theorem Vk (l:List ByteArray):∀ u∈Oc l,u.oneCell'=true:=fun u hu=>by
 obtain ⟨s,_,rfl⟩:=List.mem_map.1 hu;rfl
def Cm (w:World) (a:Option Addr) (l:List ByteArray):Prop:=l=[]\/∃ b off,a=some ⟨b,off,none⟩/\b<w.heap.size/\∀ i,i<l.length->w.cell? ⟨b,off+i,none⟩=some (.string (l.getD i ⟨#[]⟩))
theorem yl {a:Option Addr} (h:Cm w a l):∃ b off,(l=[]\/(a=some ⟨b,off,none⟩/\b<w.heap.size/\∀ i,i<l.length->w.cell? ⟨b,off+i,none⟩=some (.string (l.getD i ⟨#[]⟩)))):=by
 rcases h with h | ⟨b,off,h⟩
 · exact ⟨0,0,.inl h⟩
 exact ⟨b,off,.inr h⟩
theorem Xb {base:Nat} {v:Value} (h:w.ownsRow base 9 1 v l.length (Oc l)):∃ a c,v=.slice a l.length c/\Cm w a l:=by
 obtain ⟨a,c,h1,h2⟩:=Ti h;refine ⟨a,c,h1,?_⟩
 cases l with
 | nil=>exact .inl rfl
 | cons x r=>
  obtain ⟨g,ha,h0⟩:=h2 0 (.string x) rfl;subst ha;refine .inr ⟨g,0,rfl,?_,fun i hi=>?_⟩
  · exact (h.lt g (by rw [h1];rfl)).2
  obtain ⟨g',ha,hc⟩:=h2 i (.string ((x::r).getD i ⟨#[]⟩)) (by
   unfold Oc;rw [List.getElem?_map,List.getElem?_eq_getElem hi];simp [List.getD,List.getElem?_eq_getElem hi])
  injection ha with ha;injection ha with ha;subst ha;rw [Nat.zero_add];exact hc
def Mt (l:List ByteArray) (s:ByteArray):Bool:=l.any fun x=>decide (x=s)
theorem Ac:Mt l s=true↔s∈l:=by
 simp [Mt]
theorem c87 (a:Option Addr) (cap:Nat) (l:List ByteArray) (s:ByteArray) (w:World) (hl:l.length<=1000) (hat:Cm w a l):
 Calls Tryz.prog 87 #[.slice a l.length cap,.string s] w fun e w'=>e=.returned (.bool (Mt l s))/\w'=w:=by
 obtain ⟨b,off,hc⟩:=yl hat;have HC:=Q0 hc;clear hat hc;go_enter Tryz.func87,Tryz.ntmps87
 go_wp2_with fail
 go_loopw [5] (fun vi wr=>∃ k:Nat,k<=l.length/\vi=.int .i64 k/\wr=w/\Hid (∀ j,j<k->l.getD j ⟨#[]⟩≠s)) (fun vi _=>l.length - (intOf vi).toNat)
 case atStart=>exact ⟨0,Nat.zero_le _,rfl,rfl,fun j h=>absurd h (Nat.not_lt_zero _)⟩
 obtain ⟨k,hk,rfl,rfl,hd⟩:=hrel;by_cases hlt:k<l.length;rotate_left
 · have HR:Hid (Mt l s=false):=by
    show _=_;rw [<- Bool.not_eq_true,Ac];intro hm;obtain ⟨j,hj,rfl⟩:=List.getElem_of_mem hm;exact hd.out j O0 (by simp [List.getD,List.getElem?_eq_getElem hj])
   clear hd;go_wp2;go_ret;exact ⟨by rw [HR.out];rfl,rfl⟩
 rcases HC.out with hss | ⟨ha,hbw,hcell⟩
 · rw [hss] at hlt;exact absurd hlt (Nat.not_lt_zero _)
 subst ha;have g0:=hcell k hlt;have HM:Hid (l.getD k ⟨#[]⟩∈l):=by show _∈_;simp [List.getD,List.getElem?_eq_getElem hlt]
 have HD:Hid (l.getD k ⟨#[]⟩≠s->∀ j,j<k+1->l.getD j ⟨#[]⟩≠s):=fun h j hj=>by
  rcases Nat.lt_or_ge j k with h1 | h1
  · exact hd.out j h1
  obtain rfl:j=k:=O0;exact h
 generalize l.getD k ⟨#[]⟩=x at*;clear hcell;cases hq:(x.toList==s.toList);rotate_left
 · have hnm:x=s:=by
    have:=beq_iff_eq.1 hq;rw [ByteArray.toList_eq,ByteArray.toList_eq] at this;exact ByteArray.ext (Array.toList_inj.1 this)
   subst hnm;have HR:=Q0 (Ac.2 HM.out);clear HD hd HM;go_wp2;go_ret;exact ⟨by rw [HR.out];rfl,rfl⟩
 have hnm:x≠s:=fun e=>by rw [e] at hq;simp at hq
 have aU:=Q0 (HD.out hnm);clear HD hd HM;go_wp2;go_roundw
 case rel=>exact ⟨k+1,O0,by go_num,trivial,aU⟩
 case measure=>simp [intOf];omega
def kP:List ByteArray->ByteArray->Nat
 | [],_=>0
 | a::r,s=>if lt a s=true then kP r s+1 else 0
def Yc (l:List ByteArray) (s:ByteArray):List ByteArray:=if l[kP l s]?=some s then l else l.take (kP l s)++[s]++l.drop (kP l s)
theorem pF:∀ (l:List ByteArray) (s:ByteArray),kP l s<=l.length
 | [],_=>Nat.le_refl _
 | a::r,s=>by
  unfold kP;have:=pF r s;split <;> simp <;> omega
theorem eB:∀ (l:List ByteArray) (s:ByteArray) (k:Nat),k<=l.length->(∀ j,j<k->lt (l.getD j ⟨#[]⟩) s=true)->(k<l.length->lt (l.getD k ⟨#[]⟩) s=false)->kP l s=k
 | [],s,k,h,_,_=>by simp at h;subst h;rfl
 | a::r,s,0,_,_,h3=>by
  have:=h3 U0;have:lt a s=false:=this;unfold kP;rw [if_neg (by rw [this];simp)]
 | a::r,s,k+1,h1,h2,h3=>by
  have h0:lt a s=true:=h2 0 O0;unfold kP;rw [if_pos h0,eB r s k (by simpa using h1) (fun j hj=>h2 (j+1) O0) (fun h=>h3 (by simpa using h))]
theorem lF:∀ (l:List ByteArray) (s:ByteArray) (j:Nat),j<kP l s->lt (l.getD j ⟨#[]⟩) s=true
 | [],_,_,h=>by simp [kP] at h
 | a::r,s,j,h=>by
  unfold kP at h;split at h
  · cases j with
    | zero=>assumption
    | succ j=>exact lF r s j O0
  omega
theorem ME:∀ (l:List ByteArray) (s:ByteArray),kP l s<l.length->lt (l.getD (kP l s) ⟨#[]⟩) s=false
 | [],_,h=>by simp at h
 | a::r,s,h=>by
  unfold kP at h ⊢;by_cases hl:lt a s=true
  · rw [if_pos hl] at h ⊢
    exact ME r s (by simpa using h)
  rw [if_neg hl];simpa using hl
theorem ic (l:List ByteArray) (s k:ByteArray):k∈Yc l s↔k∈l\/k=s:=by
 unfold Yc;split
 · rename_i h
   exact ⟨.inl,fun h'=>h'.elim id fun e=>e▸List.mem_of_getElem? h⟩
 rw [List.mem_append,List.mem_append,List.mem_singleton];have:k∈l↔k∈l.take (kP l s)\/k∈l.drop (kP l s):=by rw [<- List.mem_append,List.take_append_drop]
 rw [this];constructor
 · rintro ((h | h) | h)
   · exact .inl (.inl h)
   · exact .inr h
   exact .inl (.inr h)
 rintro ((h | h) | h)
 · exact .inl (.inl h)
 · exact .inr h
 exact .inl (.inr h)
theorem XB (l:List ByteArray) (s:ByteArray):l.length<=(Yc l s).length/\(Yc l s).length<=l.length+1:=by
 unfold Yc;split
 · omega
 simp;omega
theorem Jr:∀ a b:List UInt8,a≠b->Op.bytesLess a b=false->Op.bytesLess b a=true
 | [],[],h,_=>absurd rfl h
 | [],_::_,_,h=>by simp [Op.bytesLess] at h
 | _::_,[],_,_=>by simp [Op.bytesLess]
 | x::r,y::s,h,h'=>by
  simp only [Op.bytesLess] at h' ⊢;by_cases e:x=y
  · subst e
    have:=Jr r s (fun c=>h (by rw [c])) (by simpa using h');simpa using this
  have e1:x.toNat≠y.toNat:=fun c=>e (UInt8.toNat_inj.1 c);simp [e,Ne.symm e,UInt8.lt_iff_toNat_lt] at h' ⊢;omega
theorem Yt {a:ByteArray} (h:a≠b) (h':lt a b=false):lt b a=true:=Jr _ _ (fun c=>h (by rw [ByteArray.toList_eq,ByteArray.toList_eq] at c;exact ByteArray.ext (Array.toList_inj.1 c))) h'
theorem uA (h:Ck l) (s:ByteArray):Ck (Yc l s):=by
 unfold Yc;split
 · exact h
 rename_i hne;have hs:Ck (l.take (kP l s)++l.drop (kP l s)):=by rw [List.take_append_drop];exact h
 obtain ⟨h1,h2,h3⟩:=List.pairwise_append.1 hs;have hA:∀ a∈l.take (kP l s),lt a s=true:=fun a ha=>by
  obtain ⟨j,hj,rfl⟩:=List.getElem_of_mem ha;have hj':j<kP l s:=by have:=List.length_take_le (kP l s) l;omega
  have:=lF l s j hj';have hjl:j<l.length:=by have:=pF l s;omega
  rw [List.getElem_take];simpa [List.getD,List.getElem?_eq_getElem hjl] using this
 have hB:∀ b∈l.drop (kP l s),lt s b=true:=fun b hb=>by
  have hk:kP l s<l.length:=by
   rcases Nat.lt_or_ge (kP l s) l.length with h | h
   · exact h
   rw [List.drop_of_length_le h] at hb;cases hb
  have h0:=ME l s hk;rw [show l.getD (kP l s) ⟨#[]⟩=l[kP l s] by simp [List.getD,List.getElem?_eq_getElem hk]] at h0;rw [List.getElem?_eq_getElem hk] at hne;have h4:=Yt (fun e=>hne (by rw [e])) h0;rw [List.drop_eq_getElem_cons hk] at hb h2;rcases List.mem_cons.1 hb with rfl | hb
  · exact h4
  exact UE h4 ((List.pairwise_cons.1 h2).1 b hb)
 refine List.pairwise_append.2 ⟨List.pairwise_append.2 ⟨h1,List.pairwise_singleton _ _,fun a ha b hb=>?_⟩,h2,fun a ha b hb=>?_⟩
 · rw [List.mem_singleton.1 hb];exact hA a ha
 rcases List.mem_append.1 ha with ha | ha
 · exact h3 a ha b hb
 rw [List.mem_singleton.1 ha];exact hB b hb
end Go.Proofs.YtdpoaadafcaffaaGreatDoor
namespace Go.Proofs.YtdpoaadafcaffaaGreatDoor
open Proofs.Tryz
open Go.RowKit
open G.T (lt)
variable {l:List ByteArray} {B j:Nat} {v:Value} {u w:World}
theorem Js:Inf prog 9 1:=Jf I1
theorem YD (h:(Oc l)[j]?=some v):j<l.length/\v=.string (l.getD j ⟨#[]⟩):=by
 unfold Oc at h;rw [List.getElem?_map] at h;obtain ⟨x,h1,h2⟩:=Option.map_eq_some_iff.1 h;exact ⟨(List.getElem?_eq_some_iff.1 h1).1,by rw [<- h2];simp [List.getD,h1]⟩
theorem Bt {a:Option Addr} (hat:Cm w a l) (hb:Below w.heap.size w u) {i m:Nat} (hk:i+m<=l.length) (cap c:Nat) (hc:m=0\/cap≠i):Src u (.slice (if cap=i then a else a.map (·.add i)) m c) 1 m (Oc ((l.drop i).take m)):=by
 cases a with
 | none=>
  have hl:l=[]:=by
   rcases hat with h | ⟨b,off,h,_⟩
   · exact h
   cases h
  subst hl;have:m=0:=by simp at hk;omega
  subst this;exact .inl ⟨⟨c,U0⟩,rfl,rfl⟩
 | some ad=>
  by_cases h0:m=0
  · subst h0
    refine .inr ⟨if cap=i then ad else ad.add i,c,?_,by simp [Oc],fun j v e=>by simp [Oc] at e⟩;split <;> rfl
  have hne:=hc.resolve_left h0;rw [if_neg hne];refine .inr ⟨ad.add i,c,rfl,by simp [Oc];omega,fun j v e=>?_⟩;obtain ⟨hj,rfl⟩:=YD e;have hj':j<m:=by simp at hj;omega
  rcases hat with h | ⟨b,off,h1,h2,h3⟩
  · rw [h] at hk;simp at hk;omega
  obtain rfl:=Option.some.inj h1;have:=(hb.cell (p:=⟨b,off+(i+j),none⟩) h2).trans (h3 (i+j) O0);rw [Addr.add_lit,Addr.add_lit,Nat.add_assoc,this]
  congr 2
  simp only [List.getD,List.getElem?_take,List.getElem?_drop,if_pos hj']
theorem C_ {u':World} (h:Below B w u) (g:u.grownBy u' v.ownBlock) (hz:B<=u.heap.size) (hv:∀ k,v.ownBlock=some k->B<=k):Below B w u':=
 ⟨g.os.trans h.os,g.tape.trans h.tape,g.output.trans h.output,Nat.le_trans h.size g.size,fun k hk=>(g.block k O0 (fun e=>by have:=hv k e.symm;omega)).trans (h.block k hk)⟩
theorem wF (base:Nat) (a:Option Addr) (cap k:Nat) (l:List ByteArray) (s:ByteArray) (w u:World) (u2 u3 u4 u6 u7 u8 u9 u10 u11 u12 u13 u14 u15 u16 u17 u18 u19 u20 u21 u22 u23 u24 u25 u26 u27 u28 u29 u30 u31 u32 u33 u40 u44:Value) (v36 v37 v43:Value) (g6 n:Nat) (L:Array Bool) (hL:L=#[true,true,true,true,true,true,true,false,true,true,true,false,false]) {Q:Exit->Act->World->Prop} (hQ:∀ c (a:Act) (d:Option Tmp) (v:Value) w,Q (.panic c) (a.put d v) w->Q (.panic c) a w) (hk:k<=l.length) (hl:l.length<=1000) (R:Hid (u.ownsRow base 9 1 v37 k (Oc (l.take k)))) (C:Hid (Cl u g6 9 [.string s])) (YU:Hid (∀ u,Below w.heap.size w u->Src u v43 1 (l.length - k) (Oc (l.drop k)))) (Lu:Below w.heap.size w u) (hb:base<=w.heap.size) (hv:Hid (∀ k,v37.ownBlock=some k->w.heap.size<=k))
 (uM:∀ (t33 t34 t35 t36 t37 t38 t39 t40 t41 t42 t43 t44 v':Value) (w':World),w'.ownsRow base 9 1 v' (l.take k++[s]++l.drop k).length (Oc (l.take k++[s]++l.drop k))->Below w.heap.size w w'->Q .normal { tmps:=#[.slice a l.length cap,.string s,u2,u3,v',.int .i64 (k:Int),u6,u7,u8,u9,u10,u11,u12,u13,u14,u15,u16,u17,u18,u19,u20,u21,u22,u23,u24,u25,u26,u27,u28,u29,u30,u31,u32,t33,t34,t35,t36,t37,t38,t39,t40,t41,t42,t43,t44],defers:=[] } w'):
 wpAnyH prog .any #[⟨some 33,.buildSlice 73 0 #[],73, "l4_want.go:153",#[],none⟩,⟨some 34,.move (.tmp 0),73, "l4_want.go:153",#[],none⟩,⟨some 35,.move (.tmp 5),3, "l4_want.go:153",#[],none⟩,⟨some 36,.slice 73 (.tmp 34) none (some (.tmp 35)) none,73, "l4_want.go:153",#[⟨1,.data⟩,⟨2,.data⟩],none⟩,⟨some 37,.call ⟨.builtin .append,#[.tmp 33,.tmp 36],#[73,73]⟩,73, "l4_want.go:153",#[⟨0,.data⟩,⟨3,.data⟩],none⟩,⟨some 38,.move (.tmp 1),9, "l4_want.go:153",#[],none⟩,⟨some 39,.buildSlice 73 1 #[(0,.tmp 38)],73, "l4_want.go:153",#[⟨5,.data⟩],none⟩,⟨some 40,.call ⟨.builtin .append,#[.tmp 37,.tmp 39],#[73,73]⟩,73, "l4_want.go:153",#[⟨4,.data⟩,⟨6,.data⟩,⟨4,.chain⟩],none⟩,⟨some 41,.move (.tmp 0),73, "l4_want.go:153",#[],none⟩,⟨some 42,.move (.tmp 5),3, "l4_want.go:153",#[],none⟩,⟨some 43,.slice 73 (.tmp 41) (some (.tmp 42)) none none,73, "l4_want.go:153",#[⟨8,.data⟩,⟨9,.data⟩],none⟩,⟨some 44,.call ⟨.builtin .append,#[.tmp 40,.tmp 43],#[73,73]⟩,73, "l4_want.go:153",#[⟨7,.data⟩,⟨10,.data⟩,⟨7,.chain⟩],none⟩,⟨some 4,.assign (.tmp 44),73, "l4_want.go:153",#[⟨11,.data⟩,⟨11,.chain⟩,⟨0,.phase⟩,⟨1,.phase⟩,⟨2,.phase⟩,⟨3,.phase⟩,⟨4,.phase⟩,⟨5,.phase⟩,⟨6,.phase⟩,⟨7,.phase⟩,⟨8,.phase⟩,⟨9,.phase⟩,⟨10,.phase⟩,⟨11,.phase⟩],none⟩] Q (fun _=>True) (n+3) L { tmps:=#[.slice a l.length cap,.string s,u2,u3,u4,.int .i64 (k:Int),u6,u7,u8,u9,u10,u11,u12,u13,u14,u15,u16,u17,u18,u19,u20,u21,u22,u23,u24,u25,u26,u27,u28,u29,u30,u31,u32,u33,.slice a l.length cap,.int .i64 (k:Int),v36,v37,.string s,.slice (some ⟨g6,0,none⟩) 1 1,u40,.slice a l.length cap,.int .i64 (k:Int),v43,u44],defers:=[] } u:=by
 subst hL;have hb2:=Lu.size;refine rq 7 fun K hK=>?_;refine V9 rfl _ _ 73 rfl base 9 1 underlying73 Js J3 v37 k (Oc (l.take k)) rfl R.out (.slice (some ⟨g6,0,none⟩) 1 1) 1 [.string s] rfl (.inr ⟨⟨g6,0,none⟩,1,rfl,rfl,r_ C.out⟩) (by intro u hu;simp at hu;subst hu;rfl) O0 O0 ?_;intro v40 x1 O1 g1 at1;have L1:=C_ Lu g1 Lu.size hv.out;have hv1:Hid (∀ k,v40.ownBlock=some k->w.heap.size<=k):=fun k e=>by
  rcases at1 with h | h
  · exact hv.out k (h▸e)
  rw [h] at e;have:=Option.some.inj e;omega
 have R1:=Q0 O1;clear O1 g1 at1;refine hK.out _ _ trivial fun hH=>?_;clear hK K
 try simp only [qq]
 refine rq 11 fun K hK=>?_;refine V9 rfl _ _ 73 rfl base 9 1 underlying73 Js J3 v40 (k+1) (Oc (l.take k)++[.string s]) rfl R1.out v43 (l.length - k) (Oc (l.drop k)) rfl (YU.out x1 L1) (Vk _) O0 (Nat.le_trans hb L1.size) ?_;intro v44 x2 O2 g2 at2;have L2:=C_ L1 g2 L1.size hv1.out;have R2:Hid (x2.ownsRow base 9 1 v44 (l.take k++[s]++l.drop k).length (Oc (l.take k++[s]++l.drop k))):=by
  show World.ownsRow _ _ _ _ _ _ _;have e1:(l.take k++[s]++l.drop k).length=k+1+(l.length - k):=X3;have e2:Oc (l.take k++[s]++l.drop k)=Oc (l.take k)++[.string s]++Oc (l.drop k):=by simp [Oc]
  rw [e1,e2];exact O2
 clear O2 g2 at2;clear hH;refine hK.out _ _ trivial fun hH=>?_;clear hK K;refine tq 12 hH ?_
 try simp only [qq]
 refine wpAnyH_done I1 ?_ _;exact uM _ _ _ _ _ _ _ _ _ _ _ _ _ _ R2.out L2
theorem TJ (base:Nat) (a:Option Addr) (cap k:Nat) (l:List ByteArray) (s:ByteArray) (w:World) (u2 u3 u4 u6 u7 u8 u9 u10 u11 u12 u13 u14 u15 u16 u17 u18 u19 u20 u21 u22 u23 u24 u25 u26 u27 u28 u29 u30 u31 u32 u33 u34 u35 u36 u37 u38 u39 u40 u41 u42 u43 u44:Value) {Q:Exit->Act->World->Prop} (hQ:∀ c (a:Act) (d:Option Tmp) (v:Value) w,Q (.panic c) (a.put d v) w->Q (.panic c) a w) (hk:k<=l.length) (hl:l.length<=1000) (hc:l.length<=cap) (HR:Hid (Cm w a l)) (hb:base<=w.heap.size)
 (uM:∀ (t33 t34 t35 t36 t37 t38 t39 t40 t41 t42 t43 t44 v':Value) (w':World),w'.ownsRow base 9 1 v' (l.take k++[s]++l.drop k).length (Oc (l.take k++[s]++l.drop k))->Below w.heap.size w w'->Q .normal { tmps:=#[.slice a l.length cap,.string s,u2,u3,v',.int .i64 (k:Int),u6,u7,u8,u9,u10,u11,u12,u13,u14,u15,u16,u17,u18,u19,u20,u21,u22,u23,u24,u25,u26,u27,u28,u29,u30,u31,u32,t33,t34,t35,t36,t37,t38,t39,t40,t41,t42,t43,t44],defers:=[] } w'):
 (Code.region 6 #[⟨some 33,.buildSlice 73 0 #[],73, "l4_want.go:153",#[],none⟩,⟨some 34,.move (.tmp 0),73, "l4_want.go:153",#[],none⟩,⟨some 35,.move (.tmp 5),3, "l4_want.go:153",#[],none⟩,⟨some 36,.slice 73 (.tmp 34) none (some (.tmp 35)) none,73, "l4_want.go:153",#[⟨1,.data⟩,⟨2,.data⟩],none⟩,⟨some 37,.call ⟨.builtin .append,#[.tmp 33,.tmp 36],#[73,73]⟩,73, "l4_want.go:153",#[⟨0,.data⟩,⟨3,.data⟩],none⟩,⟨some 38,.move (.tmp 1),9, "l4_want.go:153",#[],none⟩,⟨some 39,.buildSlice 73 1 #[(0,.tmp 38)],73, "l4_want.go:153",#[⟨5,.data⟩],none⟩,⟨some 40,.call ⟨.builtin .append,#[.tmp 37,.tmp 39],#[73,73]⟩,73, "l4_want.go:153",#[⟨4,.data⟩,⟨6,.data⟩,⟨4,.chain⟩],none⟩,⟨some 41,.move (.tmp 0),73, "l4_want.go:153",#[],none⟩,⟨some 42,.move (.tmp 5),3, "l4_want.go:153",#[],none⟩,⟨some 43,.slice 73 (.tmp 41) (some (.tmp 42)) none none,73, "l4_want.go:153",#[⟨8,.data⟩,⟨9,.data⟩],none⟩,⟨some 44,.call ⟨.builtin .append,#[.tmp 40,.tmp 43],#[73,73]⟩,73, "l4_want.go:153",#[⟨7,.data⟩,⟨10,.data⟩,⟨7,.chain⟩],none⟩,⟨some 4,.assign (.tmp 44),73, "l4_want.go:153",#[⟨11,.data⟩,⟨11,.chain⟩,⟨0,.phase⟩,⟨1,.phase⟩,⟨2,.phase⟩,⟨3,.phase⟩,⟨4,.phase⟩,⟨5,.phase⟩,⟨6,.phase⟩,⟨7,.phase⟩,⟨8,.phase⟩,⟨9,.phase⟩,⟨10,.phase⟩,⟨11,.phase⟩],none⟩] true).wp prog Q { tmps:=#[.slice a l.length cap,.string s,u2,u3,u4,.int .i64 (k:Int),u6,u7,u8,u9,u10,u11,u12,u13,u14,u15,u16,u17,u18,u19,u20,u21,u22,u23,u24,u25,u26,u27,u28,u29,u30,u31,u32,u33,u34,u35,u36,u37,u38,u39,u40,u41,u42,u43,u44],defers:=[] } w:=by
 obtain ⟨v36,hs1,NY⟩:∃ v,(∀ u,(Instr.slice 73 (.slice a l.length cap) none (some (.int .i64 (k:Int))) none).run prog u=.ok v u)/\Hid (∀ u,Below w.heap.size w u->Src u v 1 k (Oc (l.take k))):=by
  refine ⟨.slice (if cap=0 then a else a.map (·.add 0)) k cap,fun u=>?_,fun u hu=>?_⟩
  · rw [run_slice_h u 73 a l.length cap I1 .i64 k O0 O0,show prog.elem 73=9 from by kernel_rfl,Tryz.sizeOf9]
    simp [sliced,Result.andThen]
  exact Bt HR.out hu (i:=0) (m:=k) O0 cap cap O0
 obtain ⟨v43,hs2,YU⟩:∃ v,(∀ u,(Instr.slice 73 (.slice a l.length cap) (some (.int .i64 (k:Int))) none none).run prog u=.ok v u)/\Hid (∀ u,Below w.heap.size w u->Src u v 1 (l.length - k) (Oc (l.drop k))):=by
  refine ⟨.slice (if cap=k then a else a.map (·.add k)) (l.length - k) (cap - k),fun u=>?_,fun u hu=>?_⟩
  · rw [run_slice_l u 73 a l.length cap I1 .i64 k O0 O0,show prog.elem 73=9 from by kernel_rfl,Tryz.sizeOf9]
    simp [sliced,Result.andThen]
  have:=Bt HR.out hu (i:=k) (m:=l.length - k) O0 cap (cap - k) O0;rw [List.take_of_length_le U0] at this;exact this
 refine wp_region_held_drew (S:=fun _=>True) I1 trivial fun hH=>?_;obtain ⟨x0,hx0⟩:∃ x:World,x=w.drew:=⟨_,rfl⟩;rw [<- hx0];have KO:Below w.heap.size w x0:=by rw [hx0];exact (Below.refl _ w).drew
 clear hx0;refine tq 1 hH ?_;refine tq 2 hH ?_;refine tq 3 hH ?_;refine tq 5 hH ?_;refine tq 8 hH ?_;refine tq 9 hH ?_;refine tq 10 hH ?_
 try simp only [qq]
 refine wpAnyH_ready (rs:=[0,6]) I1 U0 (AllReadyH.cons (o:=⟨some 33,.buildSlice 73 0 #[],73,_,_,none⟩) rfl (fun K hK=>?_) (AllReadyH.cons (o:=⟨some 39,.buildSlice 73 1 #[(0,.tmp 38)],73,_,_,none⟩) rfl (fun K hK=>?_) AllReadyH.nil))
 · go_simp
   obtain ⟨x1,hx1⟩:∃ x:World,x=x0.alloc (.cells #[] 9):=⟨_,rfl⟩;rw [<- hx1];have tZ:Below x0.heap.size x0 x1:=by rw [hx1];exact bA
   have OY:Hid (x1.ownsRow base 9 1 (.slice (some ⟨x0.heap.size,0,none⟩) 0 0) 0 []):=by show World.ownsRow _ _ _ _ _ _ _;rw [hx1];exact V4 (World.ownsRow_made x0 #[] 0 Q8 (Nat.zero_le _) rfl) (Nat.le_trans hb KO.size)
   have vM:=bT KO tZ;have z33:w.heap.size<=x0.heap.size:=KO.size;have y33:x0.heap.size<x1.heap.size:=by rw [hx1];simp
   clear hx1;clear hH;refine hK.out _ _ trivial fun hH=>?_;clear hK K
   try simp only [qq]
   refine wpAnyH_ready (rs:=[4,6]) I1 U0 (AllReadyH.cons (o:=⟨some 37,.call ⟨.builtin .append,#[.tmp 33,.tmp 36],#[73,73]⟩,73,_,_,none⟩) rfl (fun K hK=>?_) (AllReadyH.cons (o:=⟨some 39,.buildSlice 73 1 #[(0,.tmp 38)],73,_,_,none⟩) rfl (fun K hK=>?_) AllReadyH.nil))
   · refine V9 rfl _ _ 73 rfl base 9 1 underlying73 Js J3 (.slice (some ⟨x0.heap.size,0,none⟩) 0 0) 0 [] rfl OY.out v36 k (Oc (l.take k)) rfl (NY.out x1 vM) (Vk _) O0 (Nat.le_trans hb vM.size) ?_
     intro v37 x2 O4 (g4:x1.grownBy x2 (some x0.heap.size)) at4;have XL:=C_ (v:=.slice (some ⟨x0.heap.size,0,none⟩) 0 0) vM g4 vM.size (fun k e=>by have:=Option.some.inj e;have:x0.heap.size=k:=this;omega);have gW:Hid (x2.ownsRow base 9 1 v37 k (Oc (l.take k))):=by have:=O4;rw [Nat.zero_add,List.nil_append] at this;exact this
     have uZ:Hid (∀ k,v37.ownBlock=some k->w.heap.size<=k):=fun k e=>by
      rcases at4 with h | h
      · rw [h] at e;have:x0.heap.size=k:=Option.some.inj e;omega
      rw [h] at e;have:=Option.some.inj e;have:=vM.size;omega
     clear O4 g4 at4;clear hH;refine hK.out _ _ trivial fun hH=>?_;clear hK K
     try simp only [qq]
     refine rq 6 fun K hK=>?_;go_simp;obtain ⟨x3,hx3⟩:∃ x:World,x=x2.alloc (.cells #[.string s] 9):=⟨_,rfl⟩;rw [<- hx3];have Bx3:Below x2.heap.size x2 x3:=by rw [hx3];exact bA
     have C6:Hid (Cl x3 x2.heap.size 9 [.string s]):=by show Cl _ _ _ _;rw [hx3];exact F3 x2 _ 9
     have bM:=bT XL Bx3;clear hx3;have gW:=Q0 (ownsRow_below gW.out Bx3);clear hH;refine hK.out _ _ trivial fun hH=>?_;clear hK K
     try simp only [qq]
     exact wF base a cap k l s w x3 _ _ _ _ _ _ _ _ _ _ _ _ _ _ _ _ _ _ _ _ _ _ _ _ _ _ _ _ _ _ _ _ _ v36 _ v43 x2.heap.size _ _ I1 hQ hk hl gW C6 YU bM hb uZ uM
   go_simp;obtain ⟨x2,hx2⟩:∃ x:World,x=x1.alloc (.cells #[.string s] 9):=⟨_,rfl⟩;rw [<- hx2];have iW:Below x1.heap.size x1 x2:=by rw [hx2];exact bA
   have C6:Hid (Cl x2 x1.heap.size 9 [.string s]):=by show Cl _ _ _ _;rw [hx2];exact F3 x1 _ 9
   have XL:=bT vM iW;clear hx2;have OY:=Q0 (ownsRow_below OY.out iW);clear hH;refine hK.out _ _ trivial fun hH=>?_;clear hK K
   try simp only [qq]
   refine rq 4 fun K hK=>?_;refine V9 rfl _ _ 73 rfl base 9 1 underlying73 Js J3 (.slice (some ⟨x0.heap.size,0,none⟩) 0 0) 0 [] rfl OY.out v36 k (Oc (l.take k)) rfl (NY.out x2 XL) (Vk _) O0 (Nat.le_trans hb XL.size) ?_;intro v37 x3 O4 (g4:x2.grownBy x3 (some x0.heap.size)) at4;have bM:=C_ (v:=.slice (some ⟨x0.heap.size,0,none⟩) 0 0) XL g4 XL.size (fun k e=>by have:=Option.some.inj e;have:x0.heap.size=k:=this;omega);have gW:Hid (x3.ownsRow base 9 1 v37 k (Oc (l.take k))):=by have:=O4;rw [Nat.zero_add,List.nil_append] at this;exact this
   have uZ:Hid (∀ k,v37.ownBlock=some k->w.heap.size<=k):=fun k e=>by
    rcases at4 with h | h
    · rw [h] at e;have:x0.heap.size=k:=Option.some.inj e;omega
    rw [h] at e;have:=Option.some.inj e;have:=XL.size;omega
   have C6:=Q0 (C6.out.gb g4 (by intro e;have:x1.heap.size=x0.heap.size:=Option.some.inj e;omega));clear O4 g4 at4;clear hH;refine hK.out _ _ trivial fun hH=>?_;clear hK K
   try simp only [qq]
   exact wF base a cap k l s w x3 _ _ _ _ _ _ _ _ _ _ _ _ _ _ _ _ _ _ _ _ _ _ _ _ _ _ _ _ _ _ _ _ _ v36 _ v43 x1.heap.size _ _ I1 hQ hk hl gW C6 YU bM hb uZ uM
 go_simp;obtain ⟨x1,hx1⟩:∃ x:World,x=x0.alloc (.cells #[.string s] 9):=⟨_,rfl⟩;rw [<- hx1];have tZ:Below x0.heap.size x0 x1:=by rw [hx1];exact bA
 have C6:Hid (Cl x1 x0.heap.size 9 [.string s]):=by show Cl _ _ _ _;rw [hx1];exact F3 x0 _ 9
 have vM:=bT KO tZ;clear hx1;clear hH;refine hK.out _ _ trivial fun hH=>?_;clear hK K
 try simp only [qq]
 refine rq 0 fun K hK=>?_;go_simp;obtain ⟨x2,hx2⟩:∃ x:World,x=x1.alloc (.cells #[] 9):=⟨_,rfl⟩;rw [<- hx2];have iW:Below x1.heap.size x1 x2:=by rw [hx2];exact bA
 have OY:Hid (x2.ownsRow base 9 1 (.slice (some ⟨x1.heap.size,0,none⟩) 0 0) 0 []):=by show World.ownsRow _ _ _ _ _ _ _;rw [hx2];exact V4 (World.ownsRow_made x1 #[] 0 Q8 (Nat.zero_le _) rfl) (Nat.le_trans hb vM.size)
 have XL:=bT vM iW;have z33:w.heap.size<=x1.heap.size:=vM.size;have y33:x1.heap.size<x2.heap.size:=by rw [hx2];simp
 clear hx2;have z61:x0.heap.size<x1.heap.size:=C6.out.lt;have C6:=Q0 (C6.out.below iW C6.out.lt);clear hH;refine hK.out _ _ trivial fun hH=>?_;clear hK K
 try simp only [qq]
 refine rq 4 fun K hK=>?_;refine V9 rfl _ _ 73 rfl base 9 1 underlying73 Js J3 (.slice (some ⟨x1.heap.size,0,none⟩) 0 0) 0 [] rfl OY.out v36 k (Oc (l.take k)) rfl (NY.out x2 XL) (Vk _) O0 (Nat.le_trans hb XL.size) ?_;intro v37 x3 O4 (g4:x2.grownBy x3 (some x1.heap.size)) at4;have bM:=C_ (v:=.slice (some ⟨x1.heap.size,0,none⟩) 0 0) XL g4 XL.size (fun k e=>by have:=Option.some.inj e;have:x1.heap.size=k:=this;omega);have gW:Hid (x3.ownsRow base 9 1 v37 k (Oc (l.take k))):=by have:=O4;rw [Nat.zero_add,List.nil_append] at this;exact this
 have uZ:Hid (∀ k,v37.ownBlock=some k->w.heap.size<=k):=fun k e=>by
  rcases at4 with h | h
  · rw [h] at e;have:x1.heap.size=k:=Option.some.inj e;omega
  rw [h] at e;have:=Option.some.inj e;have:=XL.size;omega
 have C6:=Q0 (C6.out.gb g4 (by intro e;have:x0.heap.size=x1.heap.size:=Option.some.inj e;omega));clear O4 g4 at4;clear hH;refine hK.out _ _ trivial fun hH=>?_;clear hK K
 try simp only [qq]
 exact wF base a cap k l s w x3 _ _ _ _ _ _ _ _ _ _ _ _ _ _ _ _ _ _ _ _ _ _ _ _ _ _ _ _ _ _ _ _ _ v36 _ v43 x0.heap.size _ _ I1 hQ hk hl gW C6 YU bM hb uZ uM
theorem aK (base:Nat) (v:Value) (l:List ByteArray) (s:ByteArray) (w:World) (h:w.ownsRow base 9 1 v l.length (Oc l)) (hl:l.length<=1000) (hb:base<=w.heap.size):
 Calls prog 88 #[v,.string s] w fun e w'=>(∃ v',e=.returned v'/\w'.ownsRow base 9 1 v' (Yc l s).length (Oc (Yc l s)))/\Below w.heap.size w w':=by
 have HR:=Q0 h;obtain ⟨a,cap,hv,hat⟩:=Xb h;subst hv;have hcap:l.length<=cap:=by
  rcases h.2 with ⟨e,h0⟩ | ⟨g,c,cur,e,_,_,hc,_⟩
  · omega
  injection e with _ _ e;omega
 have HAT:=Q0 hat;obtain ⟨b,off,hc⟩:=yl hat;have HC:=Q0 hc;clear h hat hc;go_enter func88,ntmps88
 go_wp2_with fail
 go_loopw [5] (fun vi wr=>∃ k:Nat,k<=l.length/\vi=.int .i64 k/\wr=w/\Hid (∀ j,j<k->lt (l.getD j ⟨#[]⟩) s=true)) (fun vi _=>l.length - (intOf vi).toNat)
 case atStart=>exact ⟨0,Nat.zero_le _,rfl,rfl,fun j h=>absurd h (Nat.not_lt_zero _)⟩
 obtain ⟨k,hk,rfl,rfl,hd⟩:=hrel;by_cases hlt:k<l.length;rotate_left
 · obtain rfl:k=l.length:=O0
   have jW:=Q0 (eB l s _ Q8 hd.out (fun h=>O0));have HP:Hid (Yc l s=l.take l.length++[s]++l.drop l.length):=by show _=_;unfold Yc;rw [jW.out,if_neg U0]
   clear hd jW
   go_upto_region 6 with fail
   try simp only [qq]
   refine TJ base a cap l.length l s wr _ _ _ _ _ _ _ _ _ _ _ _ _ _ _ _ _ _ _ _ _ _ _ _ _ _ _ _ _ _ _ _ _ _ _ _ _ _ _ _ _ _ ?hq2 Q8 hl hcap HAT hb ?kk2
   case hq2=>exact fun _ _ d _ _ h=>by cases d <;> exact h
   intro t33 t34 t35 t36 t37 t38 t39 t40 t41 t42 t43 t44 v' w' hr hb';have HRR:=Q0 hr;have xQ:=Q0 hb';clear hr hb';go_wp2;go_ret;exact ⟨⟨_,rfl,by rw [HP.out];exact HRR.out⟩,xQ.out⟩
 rcases HC.out with hss | ⟨ha,hbw,hcell⟩
 · rw [hss] at hlt;exact absurd hlt (Nat.not_lt_zero _)
 subst ha;have g0:=hcell k hlt;have HD:Hid (lt (l.getD k ⟨#[]⟩) s=true->∀ j,j<k+1->lt (l.getD j ⟨#[]⟩) s=true):=fun h j hj=>by
  rcases Nat.lt_or_ge j k with h1 | h1
  · exact hd.out j h1
  obtain rfl:j=k:=O0;exact h
 have HK:Hid (lt (l.getD k ⟨#[]⟩) s=false->kP l s=k):=fun h=>eB l s k hk hd.out (fun _=>h);have HG:Hid (l[k]?=some (l.getD k ⟨#[]⟩)):=by show _=_;simp [List.getD,List.getElem?_eq_getElem hlt]
 generalize l.getD k ⟨#[]⟩=x at*;clear hcell;cases hx:Op.bytesLess x.toList s.toList;rotate_left
 · have aU:=Q0 (HD.out hx)
   clear HD HK HG hd;go_wp2;go_roundw
   case rel=>exact ⟨k+1,O0,by go_num,trivial,aU⟩
   case measure=>simp [intOf];omega
 have jW:=Q0 (HK.out hx);cases hq:(x.toList==s.toList);rotate_left
 · have hnm:x=s:=by
    have:=beq_iff_eq.1 hq;rw [ByteArray.toList_eq,ByteArray.toList_eq] at this;exact ByteArray.ext (Array.toList_inj.1 this)
   have HP:Hid (Yc l s=l):=by show _=_;unfold Yc;rw [jW.out,HG.out,hnm,if_pos rfl]
   clear HD HK HG hd jW;subst hnm;go_wp2;go_ret;exact ⟨⟨_,rfl,by rw [HP.out];exact HR.out⟩,Below.refl _ _⟩
 have hnm:x≠s:=fun e=>by rw [e] at hq;simp at hq
 have HP:Hid (Yc l s=l.take k++[s]++l.drop k):=by show _=_;unfold Yc;rw [jW.out,HG.out,if_neg (fun e=>hnm (Option.some.inj e))]
 clear HD HK HG hd jW
 go_upto_region 6 with fail
 try simp only [qq]
 refine TJ base (some ⟨b,off,none⟩) cap k l s wr _ _ _ _ _ _ _ _ _ _ _ _ _ _ _ _ _ _ _ _ _ _ _ _ _ _ _ _ _ _ _ _ _ _ _ _ _ _ _ _ _ _ ?hq1 hk hl hcap HAT hb ?vZ
 case hq1=>exact fun _ _ d _ _ h=>by cases d <;> exact h
 intro t33 t34 t35 t36 t37 t38 t39 t40 t41 t42 t43 t44 v' w' hr hb';have HRR:=Q0 hr;have xQ:=Q0 hb';clear hr hb';go_wp2;go_ret;exact ⟨⟨_,rfl,by rw [HP.out];exact HRR.out⟩,xQ.out⟩
end Go.Proofs.YtdpoaadafcaffaaGreatDoor
namespace Go.Proofs.YtdpoaadafcaffaaGreatDoor
open Go.RowKit
open G.T (lt)
variable {E:Env} {nm s wt:ByteArray} {C C0:List ByteArray} {ls:List M.L4} {base j:Nat}
structure Cn (E:Env) (nm:ByteArray) (C0 C:List ByteArray):Prop where
 ZT:Ck C
 sub:∀ k∈C0,k∈C
 rch:∀ k∈C,Xm E nm k
 len:C0.length<=C.length
theorem Cn.put (h:Cn E nm C0 C) (hs:Xm E nm s):Cn E nm C0 (Yc C s):=
 ⟨uA h.ZT s,fun k hk=>(ic _ _ _).2 (.inl (h.sub k hk)),fun k hk=>((ic _ _ _).1 hk).elim (h.rch k) (fun e=>e▸hs),Nat.le_trans h.len (XB C s).1⟩
theorem Cn.back (h:Cn E nm C0 C) (h0:Ck C0) (hl:¬ C0.length<C.length):∀ k∈C,k∈C0:=fun k hk=>Classical.byContradiction fun hn=>by
 have:=Sc (List.nodup_cons.2 ⟨hn,Lg h0⟩) (l':=C) (fun x hx=>by
  rcases List.mem_cons.1 hx with rfl | hx
  · exact hk
  exact h.sub x hx)
 rw [List.length_cons] at this;omega
def wJ (E:Env) (ws:List W8):Prop:=(∀ i,i<ws.length->∀ k∈L_ (ws.getD i I8).ls (ws.getD i I8).wt,Ask E (ws.getD i I8).m.nm k)/\∀ n k,Ask E n k->∃ i,i<ws.length/\(ws.getD i I8).m.nm=n/\k∈L_ (ws.getD i I8).ls (ws.getD i I8).wt
theorem dA (hj:j<ls.length) (h:(ls.getD j M.A_).has=false):(ls.getD j M.A_).nm∈L_ ls wt:=by
 refine List.mem_append_left _ (List.mem_map.2 ⟨ls.getD j M.A_,List.mem_filter.2 ⟨by simp [List.getD,List.getElem?_eq_getElem hj],by rw [h];rfl⟩,rfl⟩)
theorem yC (h:∀ j,j<ls.length->(ls.getD j M.A_).has=false->(ls.getD j M.A_).nm∈C) (hw:wt≠⟨#[]⟩->wt∈C):∀ k∈L_ ls wt,k∈C:=fun k hk=>by
 rcases List.mem_append.1 hk with hk | hk
 · obtain ⟨x,hx,rfl⟩:=List.mem_map.1 hk
   obtain ⟨hx,hh⟩:=List.mem_filter.1 hx;obtain ⟨j,hj,rfl⟩:=List.getElem_of_mem hx;have:=h j hj;simp only [List.getD,List.getElem?_eq_getElem hj,Option.getD_some] at this;exact this (by simpa using hh)
 split at hk
 · cases hk
 rename_i hne;rw [List.mem_singleton.1 hk];exact hw hne
theorem DF (h:wt≠⟨#[]⟩):wt∈L_ ls wt:=List.mem_append_right _ (by rw [if_neg h];exact List.mem_singleton.2 rfl)
theorem row_one (w:World) (x:Value) (e:TypeId) (hb:base<=w.heap.size):(w.alloc (.cells #[x] e)).ownsRow base e 1 (.slice (some ⟨w.heap.size,0,none⟩) 1 1) 1 [x]:=
 ⟨rfl,.inr ⟨w.heap.size,1,#[x],rfl,hb,heap_alloc_new w _,Nat.le_refl _,J3,rfl,rfl⟩⟩
theorem c49 (E:Env) (hE:l8 E) (hms:E.ms.length<=30) (wa:Option Addr) (wc:Nat) (ws:List W8) (nm:ByteArray) (w:World) (yQ:ws.length<=300) (hws:Uf w wa ws) (hlv:∀ i,i<ws.length->Nc w (ws.getD i I8)/\(ws.getD i I8).ls.length<=15) (hw:wJ E ws):
 Calls Tryz.prog 49 #[.slice wa ws.length wc,.string nm] w fun e w'=>(∃ v,e=.returned v/\∃ C,w'.ownsRow w.heap.size 9 1 v C.length (Oc C)/\Ck C/\∀ k,k∈C↔Xm E nm k)/\Below w.heap.size w w':=by
 have HE:=Q0 hE;have kW:=Q0 hms;have HW:=Q0 hw;have HL:=Q0 hlv;obtain ⟨b,off,hc⟩:=Vl hws;have HC:=Q0 hc;have LEN:Hid (∀ C0 C,Cn E nm C0 C->C.length<=481):=fun C0 C h=>Xh HE.out kW.out (Lg h.ZT) h.rch;clear hE hms hw hlv hws hc;go_enter Tryz.func49,Tryz.ntmps49
 go_upto_region 2 with fail
 obtain ⟨u0,hu0⟩:∃ u:World,u=w.alloc (.cells #[.string nm] 9):=⟨_,rfl⟩;rw [<- hu0];have R0:Hid (u0.ownsRow w.heap.size 9 1 (.slice (some ⟨w.heap.size,0,none⟩) 1 1) [nm].length (Oc [nm])):=by show World.ownsRow _ _ _ _ _ _ _;rw [hu0];exact row_one w _ 9 Q8
 have B0:Hid (Below w.heap.size w u0):=by show Below _ _ _;rw [hu0];exact bA
 clear hu0
 go_wp2_with fail
 go_loopg [5,6] 483 (fun n v5 v6 wr=>∃ (ag:Bool) (C:List ByteArray) (va:Option Addr) (vc:Nat),v5=.slice va C.length vc/\v6=.bool ag/\Hid (wr.ownsRow w.heap.size 9 1 (.slice va C.length vc) C.length (Oc C))/\Hid (Cn E nm C C/\nm∈C)/\Hid (ag=true->483 - C.length<=n)/\Hid (ag=false->∀ i,i<ws.length->(ws.getD i I8).m.nm∈C->∀ k∈L_ (ws.getD i I8).ls (ws.getD i I8).wt,k∈C)/\Hid (Below w.heap.size w wr))
 case atStart=>exact ⟨true,[nm],_,_,rfl,rfl,R0.out,⟨⟨List.pairwise_singleton _ _,fun k h=>h,fun k h=>by rw [List.mem_singleton.1 h];exact .base,Nat.le_refl _⟩,List.mem_singleton.2 rfl⟩,fun _=>U0,(fun h=>by cases h),B0.out⟩
 obtain ⟨ag,C0,va,vc,rfl,rfl,wZ,wP,HN0,HCL,HB0⟩:=hrel;cases ag
 · have HF:Hid (∀ k,k∈C0↔Xm E nm k):=fun k=>⟨wP.out.1.rch k,fun h=>by
    induction h with
    | base=>exact wP.out.2
    | step _ ha ih=>
     obtain ⟨i,hi,h1,h2⟩:=HW.out.2 _ _ ha;exact HCL.out rfl i hi (by rw [h1];exact ih) _ h2⟩
   go_wp2;go_ret;exact ⟨⟨_,rfl,C0,wZ.out,wP.out.1.ZT,HF.out⟩,HB0.out⟩
 have hn0:=HN0.out rfl;have hl0:=LEN.out _ _ wP.out.1;clear HN0 HCL
 go_wp2_with fail
 go_loopw [5,8] (fun v5 v8 wr=>∃ (i:Nat) (C:List ByteArray) (va:Option Addr) (vc:Nat),i<=ws.length/\v5=.slice va C.length vc/\v8=.int .i64 i/\Hid (wr.ownsRow w.heap.size 9 1 (.slice va C.length vc) C.length (Oc C))/\Hid (Cn E nm C0 C)/\Hid (∀ i',i'<i->(ws.getD i' I8).m.nm∈C0->∀ k∈L_ (ws.getD i' I8).ls (ws.getD i' I8).wt,k∈C)/\Hid (Below w.heap.size w wr)) (fun _ v8 _=>ws.length - (intOf v8).toNat)
 case atStart=>exact ⟨0,C0,_,_,Nat.zero_le _,rfl,rfl,wZ.out,wP.out.1,fun j h=>absurd h (Nat.not_lt_zero _),HB0.out⟩
 obtain ⟨i,C1,va,vc,hi,rfl,rfl,HR1,PN,HD1,HB1⟩:=hrel;have hl1:=LEN.out _ _ PN.out;by_cases hlt:i<ws.length;rotate_left
 · obtain rfl:i=ws.length:=O0
   have xZ:Hid (Cn E nm C1 C1/\nm∈C1):=⟨⟨PN.out.ZT,fun k h=>h,PN.out.rch,Nat.le_refl _⟩,PN.out.sub _ wP.out.2⟩;have hle:=PN.out.len;by_cases hgr:C0.length<C1.length
   · clear HD1
     go_wp2
     go_roundg (483 - C1.length)
     case measure=>omega
     case rel=>exact ⟨true,C1,_,_,rfl,rfl,HR1.out,xZ.out,fun _=>Nat.le_refl _,(fun h=>by cases h),HB1.out⟩
   have HCL:Hid (∀ i,i<ws.length->(ws.getD i I8).m.nm∈C1->∀ k∈L_ (ws.getD i I8).ls (ws.getD i I8).wt,k∈C1):=fun j hj hm=>HD1.out j hj (PN.out.back wP.out.1.ZT hgr _ hm);clear HD1;go_wp2
   go_roundg 0
   case measure=>omega
   case rel=>exact ⟨false,C1,_,_,rfl,rfl,HR1.out,xZ.out,(fun h=>by cases h),fun _=>HCL.out,HB1.out⟩
 rcases HC.out with hss | ⟨ha,hbw,hcell⟩
 · rw [hss] at hlt;exact absurd hlt (Nat.not_lt_zero _)
 subst ha;have G:Hid (∀ u,Below w.heap.size w u->∀ j v,(ws.getD i I8).vs[j]?=some v->u.cell? ⟨b,off+i*8+j,none⟩=some v):=fun u hu j v e=>(hu.cell (p:=⟨b,off+i*8+j,none⟩) hbw).trans (hcell i hlt j v e);have LV:=Q0 (HL.out i hlt).1;have mW:=(HL.out i hlt).2;have WA:=Q0 (HW.out.1 i hlt);have zQ:Hid (∀ C:List ByteArray,(∀ k∈C1,k∈C)->((ws.getD i I8).m.nm∈C0->∀ k∈L_ (ws.getD i I8).ls (ws.getD i I8).wt,k∈C)->∀ i',i'<i+1->(ws.getD i' I8).m.nm∈C0->∀ k∈L_ (ws.getD i' I8).ls (ws.getD i' I8).wt,k∈C):=fun C hs h i' hi' hm=>by
  rcases Nat.lt_or_ge i' i with h1 | h1
  · exact fun k hk=>hs k (HD1.out i' h1 hm k hk)
  obtain rfl:i'=i:=O0;exact h hm
 clear HD1;generalize ws.getD i I8=z at*;obtain ⟨la,lc,hla,hlk,_⟩:=LV.out;obtain ⟨⟨xn,xt,xa⟩,xl,ls,xo,xc,xx,xw⟩:=z;dsimp only at hla hlk WA zQ mW;subst hla;have g0:wr.cell? ⟨b,off+i*8,none⟩=some (.string xn):=G.out wr HB1.out 0 _ rfl;obtain ⟨nW,oW,hv',GR⟩:=Xb HR1.out;injection hv' with e1 _ e2;subst e1 e2;have h53:=c87 va vc C1 xn wr O0 GR;clear hcell GR LV
 go_wp2_with fail
 refine h53.mono ?_;rintro e w1 ⟨rfl,rfl⟩;clear h53;cases hq:Mt C1 xn
 · have IR:=Q0 (zQ.out C1 (fun k h=>h) (fun hm=>absurd (PN.out.sub _ hm) (fun h=>by rw [Ac.2 h] at hq;cases hq)))
   clear zQ WA;go_wp2;go_roundw
   case rel=>exact ⟨i+1,C1,_,_,O0,rfl,by go_num,HR1.out,PN.out,IR.out,HB1.out⟩
   case measure=>simp [intOf];omega
 have hxm:=Q0 (Ac.1 hq);have HRX:Hid (∀ k∈L_ ls xw,Xm E nm k):=fun k hk=>.step (PN.out.rch _ hxm.out) (WA.out k hk);have yN:=Q0 hlk;clear hq WA hlk
 go_wp2_with fail
 go_loopw [5,9] (fun v5 v9 wr=>∃ (q:Nat) (C:List ByteArray) (va:Option Addr) (vc:Nat),q<=ls.length/\v5=.slice va C.length vc/\v9=.int .i64 q/\Hid (wr.ownsRow w.heap.size 9 1 (.slice va C.length vc) C.length (Oc C))/\Hid (Cn E nm C0 C/\∀ k∈C1,k∈C)/\Hid (∀ j,j<q->(ls.getD j M.A_).has=false->(ls.getD j M.A_).nm∈C)/\Hid (Below w.heap.size w wr)) (fun _ v9 _=>ls.length - (intOf v9).toNat)
 case atStart=>exact ⟨0,C1,_,_,Nat.zero_le _,rfl,rfl,HR1.out,⟨PN.out,fun k h=>h⟩,fun j h=>absurd h (Nat.not_lt_zero _),HB1.out⟩
 obtain ⟨q,C2,vb,vd,hq,rfl,rfl,HR2,MO,HD2,HB2⟩:=hrel;have hl2:=LEN.out _ _ MO.out.1;have g3:=G.out wr HB2.out 3 _ rfl;by_cases yZ:q<ls.length;rotate_left
 · have OM:Hid (∀ C:List ByteArray,(∀ k∈C2,k∈C)->(xw≠⟨#[]⟩->xw∈C)->∀ k∈L_ ls xw,k∈C):=fun C hs hw=>yC (fun j hj hh=>hs _ (HD2.out j O0 hh)) hw
   have g7:=G.out wr HB2.out 7 _ rfl;clear HD2;cases hw0:xw.toList.isEmpty;rotate_left
   · have hwe:xw=⟨#[]⟩:=by
      have:xw.toList=[]:=by simpa using hw0
      rw [ByteArray.toList_eq] at this;exact ByteArray.ext (Array.toList_inj.1 this)
     have IR:=Q0 (zQ.out C2 MO.out.2 (fun _=>OM.out C2 (fun k h=>h) (fun h=>absurd hwe h)));clear zQ OM;go_wp2;exact ⟨⟨i+1,C2,_,_,O0,rfl,by go_num,HR2.out,MO.out.1,IR.out,HB2.out⟩,by simp [intOf];omega⟩
   have hwn:xw≠⟨#[]⟩:=fun e=>by rw [e] at hw0;simp [ByteArray.toList_eq] at hw0
   have JR:=Q0 (HRX.out _ (DF (ls:=ls) hwn));have PY:=aK w.heap.size _ C2 xw wr HR2.out O0 HB2.out.size
   go_wp2_with fail
   refine PY.mono ?_;rintro e w2 ⟨⟨v',rfl,hr3⟩,hb3⟩;obtain ⟨ve,vf,hv3,_⟩:=Xb hr3;subst hv3;have HR3:=Q0 hr3;have HB3:=Q0 (bT HB2.out hb3);have pW:=Q0 (MO.out.1.put JR.out);have IR:=Q0 (zQ.out (Yc C2 xw) (fun k h=>(ic _ _ _).2 (.inl (MO.out.2 k h))) (fun _=>OM.out (Yc C2 xw) (fun k h=>(ic _ _ _).2 (.inl h)) (fun _=>(ic _ _ _).2 (.inr rfl))));clear PY hr3 hb3 zQ OM g3 g7;go_wp2;exact ⟨⟨i+1,Yc C2 xw,_,_,O0,rfl,by go_num,HR3.out,pW.out,IR.out,HB3.out⟩,by simp [intOf];omega⟩
 rcases yN.out with hss | ⟨lb,lo,hl,zZ,hlc⟩
 · rw [hss] at yZ;exact absurd yZ (Nat.not_lt_zero _)
 subst hl;have h0:=(HB2.out.cell (p:=⟨lb,lo+q*4,none⟩) zZ).trans (hlc q yZ).1;have h1:=(HB2.out.cell (p:=⟨lb,lo+q*4+1,none⟩) zZ).trans (hlc q yZ).2.1;have HAS:=Q0 (fun h=>HRX.out _ (dA (wt:=xw) yZ h));have dU:Hid (∀ C:List ByteArray,(∀ k∈C2,k∈C)->((ls.getD q M.A_).has=false->(ls.getD q M.A_).nm∈C)->∀ j,j<q+1->(ls.getD j M.A_).has=false->(ls.getD j M.A_).nm∈C):=fun C hs h j hj hh=>by
  rcases Nat.lt_or_ge j q with h1 | h1
  · exact hs _ (HD2.out j h1 hh)
  obtain rfl:j=q:=O0;exact h hh
 clear HD2 hlc;generalize ls.getD q M.A_=y at*;obtain ⟨yh,yn,yc,yt⟩:=y;dsimp only at*;cases yh;rotate_left
 · have KR:=Q0 (dU.out C2 (fun k h=>h) (fun h=>by cases h))
   clear dU HAS;go_wp2;go_roundw
   case rel=>exact ⟨q+1,C2,_,_,O0,rfl,by go_num,HR2.out,MO.out,KR.out,HB2.out⟩
   case measure=>simp [intOf];omega
 have JR:=Q0 (HAS.out rfl);have PY:=aK w.heap.size _ C2 yn wr HR2.out O0 HB2.out.size
 go_wp2_with fail
 refine PY.mono ?_;rintro e w2 ⟨⟨v',rfl,hr3⟩,hb3⟩;obtain ⟨ve,vf,hv3,_⟩:=Xb hr3;subst hv3;have HR3:=Q0 hr3;have HB3:=Q0 (bT HB2.out hb3);have pW:Hid (Cn E nm C0 (Yc C2 yn)/\∀ k∈C1,k∈Yc C2 yn):=⟨MO.out.1.put JR.out,fun k hk=>(ic _ _ _).2 (.inl (MO.out.2 k hk))⟩;have KR:=Q0 (dU.out (Yc C2 yn) (fun k h=>(ic _ _ _).2 (.inl h)) (fun _=>(ic _ _ _).2 (.inr rfl)));clear PY hr3 hb3 dU HAS h0 h1 g3;go_wp2;go_roundw
 case rel=>exact ⟨q+1,Yc C2 yn,_,_,O0,rfl,by go_num,HR3.out,pW.out,KR.out,HB3.out⟩
 case measure=>simp [intOf];omega
end Go.Proofs.YtdpoaadafcaffaaGreatDoor
