import Derived.Test.YtlckdgjfniglfaaGreatDooreR4
import Derived.Test.YtlckdgjfniglfaaGreatDoortW1
import Derived.Test.YtlckdgjfniglfaaGreatDooreQE
set_option linter.unusedVariables false
set_option maxHeartbeats 8000000
set_option maxRecDepth 100000
namespace Go.Proofs.YtlckdgjfniglfaaGreatDoor
open Proofs.Tryz
open Go.RowKit
theorem blk_keep {w u:World} {vs:List Value} {t:TypeId} (hb:Below (w.heap.size+1) (w.alloc (.cells vs.toArray t)) u):BlkAt u w.heap.size vs/\OpnAt u w.heap.size:=
 ⟨(blk_new w vs t).below hb om_,(opn_new w _ t).below hb om_⟩
section
variable {P:Program}
theorem results_blk2 {fn:Func} {p q:Tmp} {ty:TypeId} (h:fn.results=#[.cell p ty,.tmp q]) (tmps:Array Value) (w:World) (B:Nat) (cs:List Value) (v:Value) (d:TypeDesc)
 (hp:tmps.getD p undef=.pointer (some ⟨B,0,none⟩)) (hq:tmps.getD q undef=v) (hc:BlkAt w B cs)
 (hu:P.underlying ty=some d) (hd:(match d with | .struct _ | .array _ _=>true | _=>false)=true) (hi:(P.info? ty).map (·.size)=some cs.length):
 (results fn tmps).run P w=.ok (.tuple #[.agg cs.toArray,v]) w:=by
 have hp':tmps[p]?.getD undef=.pointer (some ⟨B,0,none⟩):=by simpa using hp
 have hq':tmps[q]?.getD undef=v:=by simpa using hq
 simp [results,h,hp',hq',asAddr,run_loadVar_blk w B ty cs d hc hu hd hi]
end
def L4.v (x:L4):Value:=.agg #[.bool x.has,.string x.nm,.int .i64 x.cd,.string x.tx]
def Is126 (l:List UInt8) (e:Ending):Prop:=∃ (x:L4) (ok:Bool),e=.returned (.tuple #[x.v,.bool ok])/\RdLook l x ok/\x.le 1048576
theorem c150 (l:List UInt8) (w:World) (hs:l.length<=16000) (hmx:MaxAt w):
 Calls prog 150 #[.string (ofL l)] w fun e w'=>Is126 l e/\Below w.heap.size w w':=by
 have hB0:Below w.heap.size w (w.alloc (.cells #[.bool false,.string ⟨#[]⟩,.int .i64 0,.string ⟨#[]⟩] 74)):=bA_;have hr:=rest_small l;have hr2:=rest_small (restOf l);go_enter func150,ntmps150
 go_wp2_with fail
 refine (c75wE l _ om_ (max_below hmx hB0)).mono ?_;rintro e w1 ⟨⟨y,rfl⟩,hb1⟩;have hx1:Below (w.heap.size+1) (w.alloc (.cells #[.bool false,.string ⟨#[]⟩,.int .i64 0,.string ⟨#[]⟩] 74)) w1:=by simpa using hb1
 clear hb1;have hm1:MaxAt w1:=max_below hmx (hB0.trans (hx1.mono om_))
 go_wp2_with fail
 refine (c75wE (restOf l) _ om_ hm1).mono ?_;rintro e w2 ⟨⟨y',rfl⟩,hb2⟩;have hx2:=hx1.trans (hb2.mono (by have h:=hx1.size;simp at h;omega));have hm2:MaxAt w2:=max_below hmx (hB0.trans (hx2.mono om_));clear hb2
 go_wp2_with fail
 refine (c171 l _).mono ?_;rintro e w3 ⟨rfl,hb3⟩;have hx3:=hx2.trans (hb3.mono (by have h:=hx2.size;simp at h;omega));have hm3:MaxAt w3:=max_below hmx (hB0.trans (hx3.mono om_));clear hb3
 go_wp2_with fail
 refine (c118 (restOf (restOf l)) _ om_ hm3).mono ?_;rintro e w4 ⟨⟨c,t,ok,rfl,hrr,hts⟩,hb4⟩;have hx4:=hx3.trans (hb4.mono (by have h:=hx3.size;simp at h;omega));clear hb4;have hB4:Below w.heap.size w w4:=hB0.trans (hx4.mono om_);have hno:(isW l=false\/ok=false)->Hid (Is126 l (.returned (.tuple #[.agg #[.bool false,.string ⟨#[]⟩,.int .i64 0,.string ⟨#[]⟩],.bool false]))):=fun h=>⟨l4z,false,rfl,rdLook_no hrr h _,dc_,dc_⟩;have hyes:isW l=true->ok=true->Hid (Is126 l (.returned (.tuple #[.agg #[.bool (hasW l),.string (ofL (wordOf (restOf l))),.int .i64 c,.string t],.bool true]))):=by
  intro h1 h2;subst h2;exact ⟨⟨hasW l,ofL (wordOf (restOf l)),c,t⟩,true,rfl,rdLook_yes h1 hrr,by show (ofL (wordOf (restOf l))).size<=1048576;rw [ofL_size];omega,hts⟩
 clear hrr;obtain ⟨bA,oA⟩:=blk_keep (vs:=[.bool false,.string ⟨#[]⟩,.int .i64 0,.string ⟨#[]⟩]) hx4;have hz4:w.heap.size<w4.heap.size:=by have h:=hx4.size;simp at h;omega
 have hA:=fun o=>bA.below ((Below.refl w4.heap.size w4).alloc lr_ o) hz4;have hO:=fun o=>oA.below ((Below.refl w4.heap.size w4).alloc lr_ o) hz4;have z0:=fun o=>hA o 0 _ rfl;have z1:=fun o=>hA o 1 _ rfl;have z2:=fun o=>hA o 2 _ rfl;have z3:=fun o=>hA o 3 _ rfl;have y0:=fun o=>hO o 0;have y1:=fun o=>hO o 1;have y2:=fun o=>hO o 2;have y3:=fun o=>hO o 3;have x0:=bA 0 _ rfl;have x1:=bA 1 _ rfl;have x2:=bA 2 _ rfl;have x3:=bA 3 _ rfl;have f0:=oA 0;have f1:=oA 1;have f2:=oA 2;have f3:=oA 3;cases hn:isW l
 · have HI:=hno (.inl hn)
   clear hno hyes;go_wp2;have FF:=BlkAt.fill (B:=w.heap.size) [.bool false,.string ⟨#[]⟩,.int .i64 0,.string ⟨#[]⟩] [] [.bool false,.string ⟨#[]⟩,.int .i64 0,.string ⟨#[]⟩] [] 0 bA rfl rfl;have GG:Below w.heap.size w (fill w4 w.heap.size 0 [.bool false,.string ⟨#[]⟩,.int .i64 0,.string ⟨#[]⟩]):=below_fill lr_ _ 0 hB4;have GZ:w.heap.size<=(fill w4 w.heap.size 0 [.bool false,.string ⟨#[]⟩,.int .i64 0,.string ⟨#[]⟩]).heap.size:=GG.size;refine bodyPost_ret (v:=.tuple #[.agg #[.bool false,.string ⟨#[]⟩,.int .i64 0,.string ⟨#[]⟩],.bool false]) (by exact results_blk2 Tryz.results150 _ _ w.heap.size _ _ _ rfl rfl (FF.below bA_ (by rw [size_fill];exact hz4)) underlying74 rfl kr_) rfl ⟨HI.out,by exact GG.alloc GZ _⟩
 · cases ok
   · have HI:=hno (.inr rfl)
     clear hno hyes;go_wp2;have FF:=BlkAt.fill (B:=w.heap.size) [.bool false,.string ⟨#[]⟩,.int .i64 0,.string ⟨#[]⟩] [] [.bool false,.string ⟨#[]⟩,.int .i64 0,.string ⟨#[]⟩] [] 0 bA rfl rfl;have GG:Below w.heap.size w (fill w4 w.heap.size 0 [.bool false,.string ⟨#[]⟩,.int .i64 0,.string ⟨#[]⟩]):=below_fill lr_ _ 0 hB4;have GZ:w.heap.size<=(fill w4 w.heap.size 0 [.bool false,.string ⟨#[]⟩,.int .i64 0,.string ⟨#[]⟩]).heap.size:=GG.size;refine bodyPost_ret (v:=.tuple #[.agg #[.bool false,.string ⟨#[]⟩,.int .i64 0,.string ⟨#[]⟩],.bool false]) (by exact results_blk2 Tryz.results150 _ _ w.heap.size _ _ _ rfl rfl (FF.below bA_ (by rw [size_fill];exact hz4)) underlying74 rfl kr_) rfl ⟨HI.out,by exact GG.alloc GZ _⟩
   · have HI:=hyes hn rfl
     clear hno hyes;go_wp2;have FF:=BlkAt.fill (B:=w.heap.size) [.bool (hasW l),.string (ofL (wordOf (restOf l))),.int .i64 c,.string t] [] [.bool false,.string ⟨#[]⟩,.int .i64 0,.string ⟨#[]⟩] [] 0 bA rfl rfl;have GG:Below w.heap.size w (fill w4 w.heap.size 0 [.bool (hasW l),.string (ofL (wordOf (restOf l))),.int .i64 c,.string t]):=below_fill lr_ _ 0 hB4;have GZ:w.heap.size<=(fill w4 w.heap.size 0 [.bool (hasW l),.string (ofL (wordOf (restOf l))),.int .i64 c,.string t]).heap.size:=GG.size;refine bodyPost_ret (v:=.tuple #[.agg #[.bool (hasW l),.string (ofL (wordOf (restOf l))),.int .i64 c,.string t],.bool true]) (by exact results_blk2 Tryz.results150 _ _ w.heap.size _ _ _ rfl rfl (FF.below bA_ (by rw [size_fill];exact hz4)) underlying74 rfl kr_) rfl ⟨HI.out,by exact GG.alloc GZ _⟩
end Go.Proofs.YtlckdgjfniglfaaGreatDoor
namespace Go.Proofs.YtlckdgjfniglfaaGreatDoor
open Proofs.Tryz
open Go.RowKit
theorem cst_fold_no {b:UInt8} {l:List UInt8} (h:b∉l) (P:List (List UInt8)) (q:List UInt8):l.foldl (cst b) (P,q)=(P,q++l):=by
 induction l generalizing q with
 | nil=>simp
 | cons c l ih=>
  have hc:c≠b:=fun e=>h (by simp [e]);rw [List.foldl_cons];have:cst b (P,q) c=(P,q++[c]):=by unfold cst;rw [if_neg hc]
  rw [this,ih (fun hm=>h (List.mem_cons_of_mem _ hm)),List.append_assoc];rfl
theorem cst_fold_pre (b:UInt8) (l:List UInt8) (P Q:List (List UInt8)) (q:List UInt8):l.foldl (cst b) (P++Q,q)=(P++(l.foldl (cst b) (Q,q)).1,(l.foldl (cst b) (Q,q)).2):=by
 induction l generalizing Q q with
 | nil=>rfl
 | cons c l ih=>
  rw [List.foldl_cons,List.foldl_cons];by_cases hc:c=b
  · have e1:cst b (P++Q,q) c=(P++(Q++[q]),[]):=by unfold cst;rw [if_pos hc,List.append_assoc]
    have e2:cst b (Q,q) c=(Q++[q],[]):=by unfold cst;rw [if_pos hc]
    rw [e1,e2,ih]
  · have e1:cst b (P++Q,q) c=(P++Q,q++[c]):=by unfold cst;rw [if_neg hc]
    have e2:cst b (Q,q) c=(Q,q++[c]):=by unfold cst;rw [if_neg hc]
    rw [e1,e2,ih]
theorem cut_no {b:UInt8} {l:List UInt8} (h:b∉l):cutS b l=[l]:=by
 unfold cutS cstate;rw [cst_fold_no h];rfl
theorem cut_hit {b:UInt8} {a r:List UInt8} (h:b∉a):cutS b (a++b::r)=a::cutS b r:=by
 unfold cutS cstate;rw [List.foldl_append,cst_fold_no h,List.foldl_cons];have e:cst b ([],[]++a) b=([a]++[],[]):=by unfold cst;rw [if_pos rfl];simp
 rw [e,cst_fold_pre];simp
theorem idx_b (b:UInt8) (l:List UInt8):(Lib.index l [b]=-1/\b∉l)\/(∃ i:Nat,Lib.index l [b]=i/\i<l.length/\l=l.take i++b::l.drop (i+1)/\b∉l.take i):=by
 rw [Lib.index_one];have hge:=Lib.indexByte_ge l b;by_cases h:Lib.indexByte l b=-1
 · refine .inl ⟨h,fun hm=>?_⟩
   obtain ⟨k,hk,e⟩:=List.getElem_of_mem hm;exact Lib.indexByte_none h k (by rw [List.getElem?_eq_getElem hk,e])
 · obtain ⟨o,ho⟩:∃ o:Nat,Lib.indexByte l b=o:=⟨(Lib.indexByte l b).toNat,om_⟩
   obtain ⟨h1,h2⟩:=Lib.indexByte_some ho;have hl:o<l.length:=by
    rcases Nat.lt_or_ge o l.length with h | h
    · exact h
    · rw [List.getElem?_eq_none h] at h1;cases h1
   refine .inr ⟨o,ho,hl,?_,fun hm=>?_⟩
   · have hx:l[o]=b:=by rw [List.getElem?_eq_getElem hl] at h1;exact Option.some.inj h1
     conv=>lhs;rw [<- List.take_append_drop o l,List.drop_eq_getElem_cons hl,hx]
   · obtain ⟨k,hk,e⟩:=List.getElem_of_mem hm
     rw [List.length_take] at hk;rw [List.getElem_take] at e;exact h2 k om_ (by rw [List.getElem?_eq_getElem om_,e])
theorem split_b (b:UInt8) (f:Nat):∀ l:List UInt8,l.length<f->Lib.splitK [b] 0 (Lib.countFrom [b] f l) l=cutS b l/\(cutS b l).length=Lib.countFrom [b] f l+1:=by
 induction f with
 | zero=>intro l h;omega
 | succ f ih=>
  intro l h;rcases idx_b b l with ⟨hi,hn⟩ | ⟨i,hi,hl,he,hn⟩
  · have hc:Lib.countFrom [b] (f+1) l=0:=by rw [Lib.countFrom,hi];rfl
    rw [hc,cut_no hn];exact ⟨rfl,rfl⟩
  · have hne:¬ ((i:Int)==-1)=true:=fun e=>by have:=beq_iff_eq.1 e;omega
    obtain ⟨h1,h2⟩:=ih (l.drop (i+1)) (by rw [List.length_drop];omega);have hc:Lib.countFrom [b] (f+1) l=Lib.countFrom [b] f (l.drop (i+1))+1:=by
     rw [Lib.countFrom,hi,if_neg hne,Nat.add_comm];rfl
    have hcut:cutS b l=l.take i::cutS b (l.drop (i+1)):=by
     conv=>lhs;rw [he]
     exact cut_hit hn
    rw [hc,hcut];refine ⟨?_,by rw [List.length_cons,h2]⟩;rw [Lib.splitK,hi,if_neg hne,<- h1];rfl
theorem c80 (b:UInt8) (s:ByteArray) (w:World) (hs:s.size<=1048700) (hm:MaxAt w):
 Calls prog 80 #[.string s,.string ⟨#[b]⟩] w fun e w'=>(e=.returned (.slice (some ⟨w.heap.size,0,none⟩) (cutS b s.data.toList).length (cutS b s.data.toList).length)/\LinesAt w' w.heap.size (cutS b s.data.toList))/\Below w.heap.size w w':=by
 obtain ⟨_,m,hm⟩:=hm;obtain ⟨h1,h2⟩:=split_b b (s.data.toList.length+1) s.data.toList om_;have hd:Lib.splitB ⟨#[b]⟩ 0 (Lib.countB s ⟨#[b]⟩) s=(cutS b s.data.toList).map ofL:=toL_inj ((Lib.splitB_data ⟨#[b]⟩ 0 (Lib.countB s ⟨#[b]⟩) s).trans h1);have hc:Lib.countB s ⟨#[b]⟩+1=(cutS b s.data.toList).length:=h2.symm;refine (Tryz.strings_Split s ⟨#[b]⟩ m w om_ hm (Nat.le_refl 1)).mono ?_;rintro e w' ⟨rfl,rfl⟩;rw [hd,hc];refine ⟨⟨rfl,sm_,fun i hi=>?_⟩,bA_⟩;simp [hi]
def endN (l:List UInt8):Bool:=decide (l.getLastD 0=10)
theorem endN_yes {l:List UInt8} (h:endN l=true):l=l.dropLast++[10]:=by
 unfold endN at h;rw [decide_eq_true_eq] at h;rcases List.eq_nil_or_concat l with e | ⟨r,c,e⟩
 · subst e;cases h
 · rw [List.concat_eq_append] at e
   subst e;rw [List.getLastD_concat] at h;rw [List.dropLast_concat,h]
theorem endN_of (l:List UInt8):endN (l++[10])=true:=by unfold endN;rw [List.getLastD_concat];rfl
theorem last_one (s:ByteArray) (h:1<=s.size):s.extract (s.size - 1) s.size=ofL [s.data.toList.getLastD 0]:=by
 refine ext_ofL ?_;rw [ext_list,List.take_of_length_le sm_];obtain ⟨r,c,e⟩:∃ r c,s.data.toList=r++[c]:=by
  rcases List.eq_nil_or_concat s.data.toList with e | ⟨r,c,e⟩
  · have:s.data.toList.length=s.size:=sm_
    rw [e] at this;simp at this;omega
  · exact ⟨r,c,by rw [e,List.concat_eq_append]⟩
 have hl:s.data.toList.length=s.size:=sm_;rw [e] at hl ⊢;rw [List.length_append,List.length_singleton] at hl;rw [List.getLastD_concat,show s.size - 1=r.length by omega,List.drop_left]
theorem head_all (s:ByteArray):s.extract 0 (s.size - 1)=ofL s.data.toList.dropLast:=by
 refine ext_ofL ?_;rw [ext_list,List.drop_zero,List.dropLast_eq_take];simp
theorem c145 (s:ByteArray) (w:World) (hs:s.size<=1048700):
 Calls prog 145 #[.string s,.string ⟨#[10]⟩] w fun e w'=>e=.returned (.bool (endN s.data.toList))/\w'=w:=by
 by_cases h:1<=s.size
 · have HX:=last_one s h
   have HE:((ofL [s.data.toList.getLastD 0]).toList==[10])=endN s.data.toList:=by
    rw [ByteArray.toList_eq,ofL_listE];unfold endN;by_cases hc:s.data.toList.getLastD 0=10
    · rw [hc];rfl
    · rw [decide_eq_false hc]
      exact beq_eq_false_iff_ne.2 fun e=>hc (List.cons.inj e).1
   generalize endN s.data.toList=bb at*;generalize s.data.toList.getLastD 0=c at*;go_enter func145,ntmps145;go_wp2;go_ret;exact ⟨rfl,rfl⟩
 · have HE:endN s.data.toList=false:=by
    have hl:s.data.toList.length=s.size:=sm_;have:s.data.toList=[]:=List.length_eq_zero_iff.1 om_;rw [this];rfl
   generalize endN s.data.toList=bb at*;subst HE;go_enter func145,ntmps145;go_wp2;go_ret;exact ⟨rfl,rfl⟩
def preN (l:List UInt8):List UInt8:=if endN l=true then l.dropLast else l
theorem c114 (s:ByteArray) (w:World) (hs:s.size<=1048700):
 Calls prog 114 #[.string s,.string ⟨#[10]⟩] w fun e w'=>e=.returned (.tuple #[.string (ofL (preN s.data.toList)),.bool (endN s.data.toList)])/\w'=w:=by
 have hX:=head_all s;have hP:(endN s.data.toList=true->ofL (preN s.data.toList)=ofL s.data.toList.dropLast/\1<=s.size)/\(endN s.data.toList=false->ofL (preN s.data.toList)=s):=by
  unfold preN;constructor
  · intro h
    rw [if_pos h];refine ⟨rfl,?_⟩;have e:=endN_yes h;have hl:s.data.toList.length=s.size:=sm_;rw [e] at hl;rw [List.length_append,List.length_singleton] at hl;omega
  · intro h
    rw [if_neg (by rw [h];decide)];rfl
 have hc:=c145 s;generalize ofL (preN s.data.toList)=p at*;generalize ofL s.data.toList.dropLast=q at*;generalize endN s.data.toList=b at*;go_enter func114,ntmps114
 go_wp2_with fail
 refine (hc _ hs).mono ?_;rintro e w1 ⟨rfl,rfl⟩;cases b
 · have e:=hP.2 rfl
   subst e;go_wp2;go_ret2;exact ⟨rfl,rfl⟩
 · obtain ⟨e,h1⟩:=hP.1 rfl
   subst e;go_wp2;go_ret2;exact ⟨rfl,rfl⟩
theorem c79 (s:ByteArray) (w:World) (hs:s.size<=1048700):
 Calls prog 79 #[.string s,.string ⟨#[10]⟩] w fun e w'=>e=.returned (.tuple #[.string (ofL (preN s.data.toList)),.bool (endN s.data.toList)])/\w'=w:=by
 have hc:=c114 s;generalize ofL (preN s.data.toList)=p at*;generalize endN s.data.toList=b at*;go_enter func79,ntmps79
 go_wp2_with fail
 refine (hc _ hs).mono ?_;rintro e w1 ⟨rfl,rfl⟩;go_wp2;go_ret2;exact ⟨rfl,rfl⟩
def Is89 (w w':World) (l:List UInt8) (e:Ending):Prop:=(endN l=false/\e=.returned (.tuple #[.slice none 0 0,.bool false]))\/(endN l=true/\∃ g,e=.returned (.tuple #[.slice (some ⟨g,0,none⟩) (cutS 10 l.dropLast).length (cutS 10 l.dropLast).length,.bool true])/\w.heap.size<=g/\LinesAt w' g (cutS 10 l.dropLast))
theorem c42 (s:ByteArray) (w:World) (hs:s.size<=1048700) (hmx:MaxAt w):
 Calls prog 42 #[.string s] w fun e w'=>Is89 w w' s.data.toList e/\Below w.heap.size w w':=by
 have hc:=c79 s;have hpn:(ofL (preN s.data.toList)).size<=1048700:=by
  rw [ofL_size];unfold preN;split
  · rw [List.length_dropLast];simp;omega
  · simp;omega
 have hy:endN s.data.toList=true->preN s.data.toList=s.data.toList.dropLast:=fun h=>by unfold preN;rw [if_pos h]
 generalize s.data.toList=l at*;go_enter func42,ntmps42
 go_wp2_with fail
 refine (hc _ hs).mono ?_;rintro e w1 ⟨rfl,rfl⟩;cases hb:endN l
 · go_wp2
   go_ret2;exact ⟨.inl ⟨hb,rfl⟩,Below.refl _ _⟩
 · rw [hy hb] at hpn ⊢
   clear hc hy
   go_wp2_with fail
   refine (c80 10 (ofL l.dropLast) _ hpn hmx).mono ?_;rintro e w2 ⟨⟨rfl,hln⟩,hb2⟩;rw [ofL_listE] at hln ⊢;have hln2:=hln;clear hln;go_wp2;go_ret2;exact ⟨.inr ⟨hb,_,rfl,Nat.le_refl _,hln2⟩,hb2⟩
theorem blk_someE {u:World} {B:Nat} {vs:List Value} (h:BlkAt u B vs) (ws:List Value) (hl:ws.length=vs.length):∀ i,i<ws.length->(u.cell? ⟨B,0+i,none⟩).isSome=true:=fun i hi=>by
 rw [Nat.zero_add,h i _ (List.getElem?_eq_getElem om_)];rfl
theorem BlkAt.drewW {u:World} {B:Nat} {vs:List Value} (h:BlkAt u B vs):BlkAt u.drew B vs:=fun j v e=>by simpa using h j v e
theorem OpnAt.drewW {u:World} {B:Nat} (h:OpnAt u B):OpnAt u.drew B:=fun j=>by simpa using h j
theorem cell_fill {B:Nat} (vs:List Value):∀ {u:World} (j:Nat) (p:Addr),p.block≠B->(fill u B j vs).cell? p=u.cell? p:=by
 induction vs with
 | nil=>intro u j p _;rfl
 | cons v vs ih=>intro u j p h;exact (ih (j+1) p h).trans (World.cell?_setCell_other _ _ _ _ (fun e=>h (by rw [<- e])))
def LsRes (l:List UInt8) (c:Int) (t:ByteArray):Prop:=∀ c' t',0<=c'->c'<=7->l=resL c' t'->c=c'/\t=t'
def Is50 (l:List UInt8) (e:Ending):Prop:=∃ (c:Int) (t:ByteArray),e=.returned (.agg #[.int .i64 c,.string t])/\LsRes l c t/\t.size<=1048576
theorem c30o (l:List UInt8) (w:World) (hs:l.length<=1048700) (K:Nat) (h1:1<=K) (h2:K<=10):
 Calls prog 30 #[.string (ofL l),.int .i64 K] w fun e w'=>(∃ g cp,e=.returned (.tuple #[.slice (some ⟨g,0,none⟩) K cp,.string (ofL (restN l K))])/\w.heap.size<=g/\LinesAt w' g (wordsN l K))/\Below w.heap.size w w':=
 c30k K h1 h2 (ofL l) w (by rw [ofL_size];exact hs)
theorem c34 (l:List UInt8) (w:World) (hs:l.length<=16000):
 Calls prog 34 #[.string (ofL l)] w fun e w'=>Is50 l e/\Below w.heap.size w w':=by
 have hB0:Below w.heap.size w (w.alloc (.cells #[.int .i64 0,.string ⟨#[]⟩] 45)):=bA_;have hr:=rest_small l;go_enter func34,ntmps34
 go_wp2_with fail
 refine (c30o l _ om_ 1 om_ om_).mono ?_;rintro e w1 ⟨⟨g,cp,rfl,hg0,hln⟩,hb1⟩;have c0:w1.cell? ⟨g,0,none⟩=some (.string (ofL (wordOf l))):=hln.2 0 (by simp [wordsN]);have hg1:=hln.1;have hx1:Below (w.heap.size+1) (w.alloc (.cells #[.int .i64 0,.string ⟨#[]⟩] 45)) w1:=by simpa using hb1
 have hg2:w.heap.size<g:=by have h:=hg0;simp at h;omega
 clear hb1 hln hg0
 go_wp2_with fail
 refine (c31 (ofL (wordOf l)) _ (by rw [ofL_size];omega)).mono ?_;rintro e w2 ⟨rfl,hb2⟩;rw [ofL_listE];have hx2:=hx1.trans (hb2.mono (by have h:=hx1.size;simp at h;omega));clear hb2
 go_wp2_with fail
 refine (c32 (ofL (restOf l)) _ (by rw [ofL_size];omega)).mono ?_;rintro e w3 ⟨⟨t,rfl,htl,htq⟩,hb3⟩;have hx3:=hx2.trans (hb3.mono (by have h:=hx2.size;simp at h;omega));clear hb3;have hB3:Below w.heap.size w w3:=hB0.trans (hx3.mono om_);rw [ofL_size] at htl;have HI:Hid (Is50 l (.returned (.agg #[.int .i64 (n29 (wordOf l)),.string (ofL t)]))):=⟨_,_,rfl,fun c' t' h0 h7 e=>by
  obtain ⟨e1,e2⟩:=res_parts t' h0;rw [<- e] at e1 e2;refine ⟨by rw [e1];exact n29_back h0 om_,?_⟩;rw [htq t'.data.toList (by rw [ofL_listE];exact e2)];rfl,by rw [ofL_size];omega⟩
 clear htq;obtain ⟨⟨z0,z1⟩,y0,y1⟩:=rz2 hx3;go_wp2;have F:=set2_atE w3 w.heap.size 0 (.int .i64 (n29 (wordOf l))) (.string (ofL t)) _ _ z0 z1;simp only [Nat.zero_add] at F;refine bodyPost_ret (v:=.agg #[.int .i64 (n29 (wordOf l)),.string (ofL t)]) (by simp [results,Tryz.results34,go_sem,F.1,F.2]) rfl ⟨HI.out,(hB3.setCell sm_ _).setCell sm_ _⟩
structure N10 where
 kd:Int
 ep:Int
 fn:ByteArray
 ft:ByteArray
 km:M3
 ls:List L4
 cd:Int
 tx:ByteArray
def n10z:N10:=⟨0,0,⟨#[]⟩,⟨#[]⟩,m3z,[],0,⟨#[]⟩⟩
def N10.le (x:N10) (B:Nat):Prop:=x.fn.size<=B/\x.ft.size<=B/\x.km.le B/\(x.ls.length<=B/\∀ i,(x.ls.getD i l4z).le B)/\x.tx.size<=B
def N10.c (x:N10) (ai:Option Addr) (ci:Nat):List Value:=[.int .i64 x.kd,.int .i64 x.ep,.string x.fn,.string x.ft,.string x.km.nm,.string x.km.tl,.string x.km.ar,.slice ai x.ls.length ci,.int .i64 x.cd,.string x.tx]
theorem N10.c_one (x:N10) (ai:Option Addr) (ci:Nat):∀ v∈x.c ai ci,v.oneCell'=true:=by simp [N10.c,Value.oneCell']
def eEpoch (n:Int):N10:=⟨1,n,⟨#[]⟩,⟨#[]⟩,m3z,[],0,⟨#[]⟩⟩
def eFile (a b:ByteArray):N10:=⟨2,0,a,b,m3z,[],0,⟨#[]⟩⟩
def eDrop (a:ByteArray):N10:=⟨3,0,a,⟨#[]⟩,m3z,[],0,⟨#[]⟩⟩
def eRan (m:M3) (ls:List L4) (c:Int) (t:ByteArray):N10:=⟨4,0,⟨#[]⟩,⟨#[]⟩,m,ls,c,t⟩
def eClear:N10:=⟨5,0,⟨#[]⟩,⟨#[]⟩,m3z,[],0,⟨#[]⟩⟩
def EntOk (x:N10):Prop:=(∃ n,(1<=n/\n<=200)/\x=eEpoch n)\/(∃ a b,(nameOk a.data.toList=true/\b.size<=300)/\x=eFile a b)\/(∃ a,nameOk a.data.toList=true/\x=eDrop a)\/(∃ m ls c t,(okM m=true/\LksOk ls/\vr c t.data.toList=true)/\x=eRan m ls c t)\/x=eClear
def joinN (ls:List (List UInt8)):List UInt8:=ls.flatMap (·++[10])
theorem looksL_join (ls:List L4):looksL ls=joinN (ls.map lookB):=by
 unfold looksL joinN
 induction ls with
 | nil=>rfl
 | cons x r ih=>simp only [List.flatMap_cons,List.map_cons,ih,lookL_B]
theorem cut_join (ls:List (List UInt8)) (h:∀ l∈ls,(10:UInt8)∉l):cutS 10 (joinN ls)=ls++[[]]:=by
 have:∀ (ls P:List (List UInt8)),(∀ l∈ls,(10:UInt8)∉l)->(joinN ls).foldl (cst 10) (P,[])=(P++ls,[]):=by
  intro ls
  induction ls with
  | nil=>intro P _;simp [joinN]
  | cons a r ih=>
   intro P h;have e:joinN (a::r)=(a++[10])++joinN r:=rfl;rw [e,List.foldl_append,cst_line _ _ (h a sm_),ih _ (fun l hl=>h l (by simp [hl]))];simp
 unfold cutS cstate;rw [this ls [] h];rfl
theorem join_cut (l:List UInt8):joinN (cutS 10 l)=l++[10]:=by
 have:∀ n,∀ l:List UInt8,l.length<=n->joinN (cutS 10 l)=l++[10]:=by
  intro n
  induction n with
  | zero=>
   intro l hl;obtain rfl:l=[]:=List.length_eq_zero_iff.1 om_;rfl
  | succ n ih=>
   intro l hl;by_cases hm:(10:UInt8)∈l
   · obtain ⟨p,r,rfl,hp⟩:=List.eq_append_cons_of_mem hm
     rw [cut_hit hp];have:=ih r (by simp at hl;omega);have e:joinN (p::cutS 10 r)=(p++[10])++joinN (cutS 10 r):=rfl;rw [e,this];simp
   · rw [cut_no hm]
     simp [joinN]
 exact this l.length l lr_
theorem cut_snoc (l:List UInt8):cutS 10 (l++[10])=cutS 10 l++[[]]:=by
 unfold cutS;rw [cstate_snoc];simp [cst]
def wEpoch:List UInt8:=[101,112,111,99,104]
def wFile:List UInt8:=[102,105,108,101]
def wDrop:List UInt8:=[100,114,111,112]
def wRan:List UInt8:=[114,97,110]
def wClear:List UInt8:=[99,108,101,97,114]
def wGave:List UInt8:=[103,97,118,101]
def linesE (x:N10):List (List UInt8):=if x.kd=1 then [wEpoch++32::dec x.ep] else if x.kd=2 then [wFile++32::(x.fn.data.toList++32::quoteL x.ft.data.toList)] else if x.kd=3 then [wDrop++32::x.fn.data.toList] else if x.kd=4 then (wRan++32::bodyL x.km)::(x.ls.map lookB++[wGave++32::resL x.cd x.tx]) else [wClear]
def entL (x:N10):List UInt8:=joinN (linesE x)
theorem lines_no {x:N10} (h:EntOk x):∀ l∈linesE x,(10:UInt8)∉l:=by
 rcases h with ⟨n,⟨h1,h2⟩,rfl⟩ | ⟨a,b,⟨h1,h2⟩,rfl⟩ | ⟨a,h1,rfl⟩ | ⟨m,ls,c,t,⟨h1,h2,h3⟩,rfl⟩ | rfl
 · intro l hl
   obtain rfl:l=wEpoch++32::dec n:=by simpa [linesE,eEpoch] using hl
   simp only [List.mem_append,List.mem_cons,not_or];exact ⟨dc_,dc_,(dec_no om_).2⟩
 · intro l hl
   obtain rfl:l=wFile++32::(a.data.toList++32::quoteL b.data.toList):=by simpa [linesE,eFile] using hl
   simp only [List.mem_append,List.mem_cons,not_or];exact ⟨dc_,dc_,(name_no h1).2,dc_,quote_no10 _⟩
 · intro l hl
   obtain rfl:l=wDrop++32::a.data.toList:=by simpa [linesE,eDrop] using hl
   simp only [List.mem_append,List.mem_cons,not_or];exact ⟨dc_,dc_,(name_no h1).2⟩
 · intro l hl
   obtain ⟨n1,n2,_⟩:=okM_facts h1;have hl':l=wRan++32::bodyL m\/l∈ls.map lookB\/l=wGave++32::resL c t:=by simpa [linesE,eRan] using hl
   rcases hl' with rfl | hl | rfl
   · rw [body_form]
     simp only [List.mem_append,List.mem_cons,not_or];exact ⟨dc_,dc_,(name_no n1).2,dc_,(name_no n2).2,dc_,quote_no10 _⟩
   · obtain ⟨y,hy,rfl⟩:=List.mem_map.1 hl
     obtain ⟨i,hi,e⟩:=List.getElem_of_mem hy;have:=h2.2 i hi;rw [List.getD,List.getElem?_eq_getElem hi,e] at this;exact look_no10 this
   · rw [resL_form]
     simp only [List.mem_append,List.mem_cons,not_or];exact ⟨dc_,dc_,(dec_no (vr_codeE h3).1).2,dc_,quote_no10 _⟩
 · intro l hl
   obtain rfl:l=wClear:=by simpa [linesE,eClear] using hl
   decide
theorem ent_len {x:N10} (h:EntOk x):(entL x).length<=16000/\1<=(entL x).length:=by
 rcases h with ⟨n,⟨h1,h2⟩,rfl⟩ | ⟨a,b,⟨h1,h2⟩,rfl⟩ | ⟨a,h1,rfl⟩ | ⟨m,ls,c,t,⟨h1,h2,h3⟩,rfl⟩ | rfl
 · have a:=dec_small n om_ om_
   have e:entL (eEpoch n)=wEpoch++32::dec n++[10]:=by simp [entL,linesE,eEpoch,joinN]
   rw [e];simp [wEpoch];omega
 · have q:=quote_len2 b.data.toList
   have k:=name_len h1;have z:b.data.toList.length=b.size:=sm_;have e:entL (eFile a b)=wFile++32::(a.data.toList++32::quoteL b.data.toList)++[10]:=by simp [entL,linesE,eFile,joinN]
   rw [e];simp only [List.length_append,List.length_cons,List.length_nil,wFile];omega
 · have k:=name_len h1
   have e:entL (eDrop a)=wDrop++32::a.data.toList++[10]:=by simp [entL,linesE,eDrop,joinN]
   rw [e];simp only [List.length_append,List.length_cons,List.length_nil,wDrop];omega
 · have a:=okM_len h1
   have q:=quote_len2 m.ar.data.toList;have l:=looks_small h2;have r:=res_len (vr_codeE h3).1 (vr_codeE h3).2 (vr_len h3);have e:entL (eRan m ls c t)=wRan++32::bodyL m++[10]++looksL ls++(wGave++32::resL c t++[10]):=by
    rw [looksL_join];simp [entL,linesE,eRan,joinN]
   rw [e,body_form];simp only [List.length_append,List.length_cons,List.length_nil,wRan,wGave];omega
 · decide
def RdE (L:List (List UInt8)) (x:N10) (ok:Bool):Prop:=(∀ y,EntOk y->L=linesE y->ok=true/\x=y)/\(ok=true->EntOk x->L=linesE x)
theorem rdE_no {L:List (List UInt8)} (h:∀ y,EntOk y->L≠linesE y) (x:N10):RdE L x false:=⟨fun y hy e=>absurd e (h y hy),fun h=>by cases h⟩
def wrdE (x:N10):List UInt8:=if x.kd=1 then wEpoch else if x.kd=2 then wFile else if x.kd=3 then wDrop else if x.kd=4 then wRan else wClear
theorem first_word {y:N10} (hy:EntOk y) {f:List UInt8} {b:List (List UInt8)} (e:f::b=linesE y):wordOf f=wrdE y/\(y.kd≠4->b=[]):=by
 rcases hy with ⟨n,_,rfl⟩ | ⟨a,c,_,rfl⟩ | ⟨a,_,rfl⟩ | ⟨m,ls,c,t,_,rfl⟩ | rfl
 · obtain ⟨rfl,rfl⟩:=List.cons.inj e
   exact ⟨(word_split dc_).1,fun _=>rfl⟩
 · obtain ⟨rfl,rfl⟩:=List.cons.inj e
   exact ⟨(word_split dc_).1,fun _=>rfl⟩
 · obtain ⟨rfl,rfl⟩:=List.cons.inj e
   exact ⟨(word_split dc_).1,fun _=>rfl⟩
 · obtain ⟨rfl,rfl⟩:=List.cons.inj e
   exact ⟨(word_split dc_).1,fun h=>absurd rfl h⟩
 · obtain ⟨rfl,rfl⟩:=List.cons.inj e
   exact ⟨(word_none dc_).1,fun _=>rfl⟩
theorem kd_cases {y:N10} (hy:EntOk y):y.kd=1\/y.kd=2\/y.kd=3\/y.kd=4\/y.kd=5:=by
 rcases hy with ⟨n,_,rfl⟩ | ⟨a,c,_,rfl⟩ | ⟨a,_,rfl⟩ | ⟨m,ls,c,t,_,rfl⟩ | rfl
 · exact .inl rfl
 · exact .inr (.inl rfl)
 · exact .inr (.inr (.inl rfl))
 · exact .inr (.inr (.inr (.inl rfl)))
 · exact .inr (.inr (.inr (.inr rfl)))
theorem of_word {y:N10} (hy:EntOk y) {w:List UInt8} {k:Int} (hk:k=1\/k=2\/k=3\/k=4\/k=5) (h:w=wrdE y) (hw:w=wrdE ⟨k,0,⟨#[]⟩,⟨#[]⟩,m3z,[],0,⟨#[]⟩⟩):y.kd=k:=by
 have hj:=kd_cases hy;have e:wrdE y=wrdE ⟨k,0,⟨#[]⟩,⟨#[]⟩,m3z,[],0,⟨#[]⟩⟩:=by rw [<- h,hw]
 clear hy h hw;unfold wrdE at e;rcases hk with rfl | rfl | rfl | rfl | rfl <;> rcases hj with h | h | h | h | h <;> rw [h] at e <;> first | exact h | (exfalso;revert e;decide)
theorem is_epoch {y:N10} (hy:EntOk y) (hk:y.kd=1):∃ n,(1<=n/\n<=200)/\y=eEpoch n:=by
 rcases hy with h | ⟨a,c,_,rfl⟩ | ⟨a,_,rfl⟩ | ⟨m,ls,c,t,_,rfl⟩ | rfl
 · exact h
 · cases hk
 · cases hk
 · cases hk
 · cases hk
theorem is_file {y:N10} (hy:EntOk y) (hk:y.kd=2):∃ a b,(nameOk a.data.toList=true/\b.size<=300)/\y=eFile a b:=by
 rcases hy with ⟨n,_,rfl⟩ | h | ⟨a,_,rfl⟩ | ⟨m,ls,c,t,_,rfl⟩ | rfl
 · cases hk
 · exact h
 · cases hk
 · cases hk
 · cases hk
theorem is_drop {y:N10} (hy:EntOk y) (hk:y.kd=3):∃ a,nameOk a.data.toList=true/\y=eDrop a:=by
 rcases hy with ⟨n,_,rfl⟩ | ⟨a,c,_,rfl⟩ | h | ⟨m,ls,c,t,_,rfl⟩ | rfl
 · cases hk
 · cases hk
 · exact h
 · cases hk
 · cases hk
theorem is_ran {y:N10} (hy:EntOk y) (hk:y.kd=4):∃ m ls c t,(okM m=true/\LksOk ls/\vr c t.data.toList=true)/\y=eRan m ls c t:=by
 rcases hy with ⟨n,_,rfl⟩ | ⟨a,c,_,rfl⟩ | ⟨a,_,rfl⟩ | h | rfl
 · cases hk
 · cases hk
 · cases hk
 · exact h
 · cases hk
theorem is_clear {y:N10} (hy:EntOk y) (hk:y.kd=5):y=eClear:=by
 rcases hy with ⟨n,_,rfl⟩ | ⟨a,c,_,rfl⟩ | ⟨a,_,rfl⟩ | ⟨m,ls,c,t,_,rfl⟩ | h
 · cases hk
 · cases hk
 · cases hk
 · cases hk
 · exact h
theorem rdE_many {f:List UInt8} {b:List (List UInt8)} (hw:wordOf f≠wRan) (hb:b≠[]) (x:N10):RdE (f::b) x false:=by
 refine rdE_no (fun y hy e=>?_) x;obtain ⟨h1,h2⟩:=first_word hy e;by_cases hk:y.kd=4
 · apply hw;rw [h1];unfold wrdE;rw [if_neg om_,if_neg om_,if_neg om_,if_pos hk]
 · exact hb (h2 hk)
theorem rdE_word {f:List UInt8} {b:List (List UInt8)} (h1:wordOf f≠wRan) (h2:wordOf f≠wEpoch) (h3:wordOf f≠wFile) (h4:wordOf f≠wDrop) (h5:wordOf f≠wClear) (x:N10):RdE (f::b) x false:=by
 refine rdE_no (fun y hy e=>?_) x;obtain ⟨hw,_⟩:=first_word hy e;unfold wrdE at hw;split at hw
 · exact h2 hw
 · split at hw
   · exact h3 hw
   · split at hw
     · exact h4 hw
     · split at hw
       · exact h1 hw
       · exact h5 hw
theorem rdE_epoch {f:List UInt8} (hw:wordOf f=wEpoch):RdE [f] (eEpoch (rnM 200 (restOf f))) (numM 200 (restOf f)):=by
 constructor
 · intro y hy e
   obtain ⟨h1,_⟩:=first_word hy e;obtain ⟨n,hn,rfl⟩:=is_epoch hy (of_word hy (.inl rfl) h1 (by rw [hw];rfl));have e':f=wEpoch++32::dec n:=(List.cons.inj e).1;have hr:restOf f=dec n:=by rw [e'];exact (word_split dc_).2
   obtain ⟨a,b⟩:=numM_dec (M:=200) (n:=n) om_ om_;rw [hr,a,b];exact ⟨rfl,rfl⟩
 · intro h _
   have d:=(numM_of h).1;have hne:restOf f≠[]:=by rw [d];exact dec_ne _
   show [f]=[wEpoch++32::dec (rnM 200 (restOf f))];rw [<- d,<- hw,<- word_both hne]
theorem rdE_file {f t:List UInt8} {ok:Bool} (hw:wordOf f=wFile) (hu:Unq (restOf (restOf f)) t ok):RdE [f] (eFile (ofL (wordOf (restOf f))) (ofL t)) ok:=by
 constructor
 · intro y hy e
   obtain ⟨h1,_⟩:=first_word hy e;obtain ⟨a,b,hn,rfl⟩:=is_file hy (of_word hy (.inr (.inl rfl)) h1 (by rw [hw];rfl));have e':f=wFile++32::(a.data.toList++32::quoteL b.data.toList):=(List.cons.inj e).1;have hr:restOf f=a.data.toList++32::quoteL b.data.toList:=by rw [e'];exact (word_split dc_).2
   obtain ⟨w1,w2⟩:=word_split (r:=quoteL b.data.toList) (name_no hn.1).1;rw [<- hr] at w1 w2;cases ok
   · exact absurd w2 (hu.2 rfl _)
   · have:t=b.data.toList:=quoteL_inj ((hu.1 rfl).symm.trans w2)
     rw [w1,this];exact ⟨rfl,rfl⟩
 · intro h _
   have q:=hu.1 h;have h2:restOf (restOf f)≠[]:=by rw [q];exact quote_ne _
   have h1:restOf f≠[]:=fun h=>by rw [h] at h2;exact h2 rfl
   show [f]=[wFile++32::(wordOf (restOf f)++32::quoteL t)];rw [<- q,<- word_both h2,<- hw,<- word_both h1]
theorem rdE_drop {f:List UInt8} (hw:wordOf f=wDrop):RdE [f] (eDrop (ofL (restOf f))) true:=by
 constructor
 · intro y hy e
   obtain ⟨h1,_⟩:=first_word hy e;obtain ⟨a,hn,rfl⟩:=is_drop hy (of_word hy (.inr (.inr (.inl rfl))) h1 (by rw [hw];rfl));have e':f=wDrop++32::a.data.toList:=(List.cons.inj e).1;have hr:restOf f=a.data.toList:=by rw [e'];exact (word_split dc_).2
   rw [hr];exact ⟨rfl,rfl⟩
 · intro _ hx
   obtain ⟨a,hn,e⟩:=is_drop hx rfl;have ea:ofL (restOf f)=a:=congrArg N10.fn e;have hne:restOf f≠[]:=fun h=>by
    rw [<- ea,ofL_listE,h] at hn;cases hn
   show [f]=[wDrop++32::restOf f];rw [<- hw,<- word_both hne]
theorem rdE_clear {f:List UInt8} (hw:wordOf f=wClear):RdE [f] eClear (decide ((32:UInt8)∉f)):=by
 constructor
 · intro y hy e
   obtain ⟨h1,_⟩:=first_word hy e;have:=is_clear hy (of_word hy (.inr (.inr (.inr (.inr rfl)))) h1 (by rw [hw];rfl));subst this;have e':f=wClear:=(List.cons.inj e).1;subst e';exact ⟨dc_,rfl⟩
 · intro h _
   rw [decide_eq_true_eq] at h;have:=(word_none h).1;show [f]=[wClear];rw [<- this,hw]
theorem ran_of {f:List UInt8} {b:List (List UInt8)} {y:N10} (hy:EntOk y) (hw:wordOf f=wRan) (e:f::b=linesE y):∃ m ls c t,(okM m=true/\LksOk ls/\vr c t.data.toList=true)/\y=eRan m ls c t/\restOf f=bodyL m/\b=ls.map lookB++[wGave++32::resL c t]:=by
 obtain ⟨h1,_⟩:=first_word hy e;obtain ⟨m,ls,c,t,hn,rfl⟩:=is_ran hy (of_word hy (.inr (.inr (.inr (.inl rfl)))) h1 (by rw [hw];rfl));obtain ⟨e1,e2⟩:=List.cons.inj e;refine ⟨m,ls,c,t,hn,rfl,?_,e2⟩;rw [e1];exact (word_split dc_).2
theorem rdE_ran0 {f:List UInt8} (hw:wordOf f=wRan) (x:N10):RdE [f] x false:=by
 refine rdE_no (fun y hy e=>?_) x;obtain ⟨m,ls,c,t,_,_,_,e2⟩:=ran_of hy hw e;have:=congrArg List.length e2;simp at this
theorem rdE_ran {f g:List UInt8} {b:List (List UInt8)} {m:M3} {ls:List L4} {c:Int} {t:ByteArray} {o1 o2 o3:Bool} (hw:wordOf f=wRan) (hm:IsBodyM (restOf f) m o1) (hl:RdLooks b ls o2) (hr:RdRes (restOf g) c t o3):
 (o1=true->o2=true->wordOf g=wGave->o3=true->RdE (f::(b++[g])) (eRan m ls c t) true)/\(¬ (o1=true/\o2=true/\wordOf g=wGave/\o3=true)->∀ x,RdE (f::(b++[g])) x false):=by
 have comp:∀ y,EntOk y->f::(b++[g])=linesE y->(o1=true/\o2=true/\wordOf g=wGave/\o3=true)/\eRan m ls c t=y:=by
  intro y hy e;obtain ⟨m',ls',c',t',⟨k1,k2,k3⟩,rfl,e1,e2⟩:=ran_of hy hw e;obtain ⟨e3,e4⟩:=List.append_inj' e2 rfl;have e4:=(List.cons.inj e4).1;obtain ⟨w1,w2⟩:=word_split (r:=resL c' t') (show (32:UInt8)∉wGave by decide);rw [<- e4] at w1 w2;obtain ⟨a1,a2⟩:=hl.1 ls' k2.2 e3;obtain ⟨b1,b2,b3⟩:=hr.1 c' t' (vr_codeE k3).1 (vr_codeE k3).2 w2;have ho:o1=true:=by
   cases o1
   · exact absurd e1 (hm.2 rfl m' k1)
   · rfl
  have hme:m=m':=bodyL_inj (hm.1 ho).1 k1 (by rw [<- (hm.1 ho).2,e1]);exact ⟨⟨ho,a1,w1,b1⟩,by rw [hme,a2,b2,b3]⟩
 constructor
 · intro h1 h2 h3 h4
   refine ⟨fun y hy e=>⟨rfl,(comp y hy e).2⟩,fun _ hx=>?_⟩;obtain ⟨m',ls',c',t',⟨k1,k2,k3⟩,e⟩:=is_ran hx rfl;have el:ls=ls':=congrArg N10.ls e;have hq:=hr.2 h4;have hne:restOf g≠[]:=by rw [hq];exact resL_ne _ _
   have hb:=(hm.1 h1).2;have hne2:restOf f≠[]:=by rw [hb];exact body_ne m
   show f::(b++[g])=(wRan++32::bodyL m)::(ls.map lookB++[wGave++32::resL c t]);rw [<- hb,<- hq,<- hw,<- h3,<- word_both hne,<- word_both hne2,<- hl.2 h2 (by rw [el];exact k2.2)]
 · intro hn x
   exact rdE_no (fun y hy e=>hn (comp y hy e).1) x
def RE (l:List UInt8) (x:N10) (ok:Bool):Prop:=(ok=true->EntOk x/\entL x=l)/\(ok=false->∀ y,EntOk y->entL y≠l)
theorem re_lines {l:List UInt8} {y:N10} (hy:EntOk y) (e:entL y=l):endN l=true/\cutS 10 l.dropLast=linesE y:=by
 have hc:=cut_join (linesE y) (lines_no hy);have hne:linesE y≠[]:=by unfold linesE;(repeat' split) <;> simp
 have hend:endN l=true:=by
  rw [<- e];unfold entL;rcases List.eq_nil_or_concat (linesE y) with h | ⟨r,c,h⟩
  · exact absurd h hne
  · rw [h,List.concat_eq_append]
    have:joinN (r++[c])=(joinN r++c)++[10]:=by simp [joinN]
    rw [this];exact endN_of _
 refine ⟨hend,?_⟩;have h2:=endN_yes hend;have:cutS 10 (l.dropLast++[10])=linesE y++[[]]:=by rw [<- h2,<- e];exact hc
 rw [cut_snoc] at this;exact List.append_cancel_right this
theorem re_end {l:List UInt8} (h:endN l=false) (x:N10):RE l x false:=by
 refine ⟨(fun h=>by cases h),fun _ y hy e=>?_⟩;rw [(re_lines hy e).1] at h;cases h
theorem re_long {l:List UInt8} (h:16000<l.length) (x:N10):RE l x false:=by
 refine ⟨(fun h=>by cases h),fun _ y hy e=>?_⟩;have:=ent_len hy;rw [e] at this;omega
theorem re_read {l:List UInt8} {x:N10} {ok:Bool} (h:endN l=true) (hr:RdE (cutS 10 l.dropLast) x ok):(ok=true->EntOk x->RE l x true)/\(¬ (ok=true/\EntOk x)->∀ z,RE l z false):=by
 constructor
 · intro h1 h2
   refine ⟨fun _=>⟨h2,?_⟩,(fun h=>by cases h)⟩;unfold entL;rw [<- hr.2 h1 h2,join_cut];exact (endN_yes h).symm
 · intro hn z
   refine ⟨(fun h=>by cases h),fun _ y hy e=>?_⟩;obtain ⟨a,b⟩:=hr.1 y hy (re_lines hy e).2;exact hn ⟨a,by rw [b];exact hy⟩
end Go.Proofs.YtlckdgjfniglfaaGreatDoor
