import Derived.Test.YtlckdgjfniglfaaGreatDooreES
import Derived.Test.YtlckdgjfniglfaaGreatDooreEU
import Derived.Test.YtlckdgjfniglfaaGreatDooreEQ
import Derived.Test.YtlckdgjfniglfaaGreatDoortWF
import Derived.Test.YtlckdgjfniglfaaGreatDoorMG
set_option linter.unusedVariables false
set_option maxHeartbeats 8000000
set_option maxRecDepth 100000
namespace Go.Proofs.YtlckdgjfniglfaaGreatDoor
open Proofs.Tryz
open Go.RowKit
theorem c14 (s:ByteArray) (w:World) (hs:s.size<=1048576):
 Calls prog 14 #[.string s] w fun e w'=>Is4 s.data.toList w' e/\Below w.heap.size w w':=by
 have hsl:s.data.toList.length=s.size:=sm_;by_cases h0:1<=s.size
 · by_cases h16:s.size<=16000
   · by_cases h4:wordOf ((cutS 10 s.data.toList).getD 0 [])=wRan
     · exact c14_ran s w h0 h16 h4
     by_cases h1:wordOf ((cutS 10 s.data.toList).getD 0 [])=wEpoch
     · exact c14_epoch s w h0 h16 h1
     by_cases h2:wordOf ((cutS 10 s.data.toList).getD 0 [])=wFile
     · exact c14_file s w h0 h16 h2
     by_cases h3:wordOf ((cutS 10 s.data.toList).getD 0 [])=wDrop
     · exact c14_drop s w h0 h16 h3
     by_cases h5:wordOf ((cutS 10 s.data.toList).getD 0 [])=wClear
     · exact c14_clear s w h0 h16 h5
     exact c14_none s w h0 h16 ⟨h4,h1,h2,h3,h5⟩
   · have HN:Hid (RES s.data.toList n10z false):=res_out (.inr om_)
     have hB0:Below w.heap.size w (w.alloc (.cells zE.toArray 47)):=bA_;have hA:=blk_new w zE 47;have hO:=opn_new w zE.toArray 47;have hS:=blk_someE hA zE rfl;have h2:decide (16000<(s.size:Int))=true:=so_;go_enter func14,ntmps14
     go_wp2_with (refine wpList_store_blk rfl 47 (.tmp 2) (.tmp 18) rfl w.heap.size 0 rfl zE rfl hS hO (by simp [zE,Value.oneCell']) kr_ rfl ?_)
     exact fin4_no HN.out rfl rfl rfl hA hB0
 · have hse:s=⟨#[]⟩:=by
    apply ByteArray.ext;have:s.data.size=0:=by
     have h:s.size=0:=om_;exact h
    exact Array.eq_empty_of_size_eq_zero this
   subst hse;exact c14_empty w
theorem re_same {l:List UInt8} {x y:N10} {a b:Bool} (hx:RES l x a) (hy:RE l y b) (zx:a=false->x=n10z) (zy:b=false->y=n10z):a=b/\x=y:=by
 cases a <;> cases b
 · exact ⟨rfl,by rw [zx rfl,zy rfl]⟩
 · obtain ⟨h1,h2⟩:=hy.1 rfl
   exact absurd h2 (hx.2 rfl y h1)
 · obtain ⟨h1,h2,_⟩:=hx.1 rfl
   exact absurd h2 (hy.2 rfl x h1)
 · obtain ⟨_,_,h3⟩:=hx.1 rfl
   obtain ⟨h1,h2⟩:=hy.1 rfl;exact ⟨rfl,h3 y h1 h2⟩
theorem c101 (a b:ByteArray) (w:World):
 Calls prog 101 #[.agg #[.string a,.string b],.agg #[.string a,.string b]] w fun e w'=>e=.returned (.bool true)/\Below w.heap.size w w':=by
 go_enter func101,ntmps101;go_wp2;go_ret;exact ⟨rfl,bA_.alloc sm_ _⟩
structure MS where
 ep:Int
 fs:List T.F2
 s:St
noncomputable def setF (fs:List T.F2) (x:T.F2):Option (List T.F2):=@dite _ (∃ gs,T.SetR fs x 0 gs) (Classical.propDecidable _) (fun h=>some h.choose) (fun _=>none)
noncomputable def drF (fs:List T.F2) (n:ByteArray):Option (List T.F2):=@dite _ (∃ gs,T.DropR fs n 0 gs) (Classical.propDecidable _) (fun h=>some h.choose) (fun _=>none)
section
variable {fs gs:List T.F2} {x:T.F2} {n:ByteArray} {c:Int}
theorem setF_0 (h:T.SetR fs x 0 gs):setF fs x=some gs:=by
 have h':∃ gs,T.SetR fs x 0 gs:=⟨gs,h⟩;unfold setF;rw [dif_pos h'];exact congrArg some (T.setR_one h h'.choose_spec).2
theorem setF_n (h:T.SetR fs x c gs) (hc:c≠0):setF fs x=none:=by
 unfold setF;exact dif_neg (fun ⟨gs',k⟩=>hc (T.setR_one k h).1)
theorem drF_0 (h:T.DropR fs n 0 gs):drF fs n=some gs:=by
 have h':∃ gs,T.DropR fs n 0 gs:=⟨gs,h⟩;unfold drF;rw [dif_pos h'];exact congrArg some (T.dropR_one h h'.choose_spec).2
theorem drF_n (h:T.DropR fs n c gs) (hc:c≠0):drF fs n=none:=by
 unfold drF;exact dif_neg (fun ⟨gs',k⟩=>hc (T.dropR_one k h).1)
end
noncomputable def dn (m:MS) (x:N10):Option MS:=
 if x.kd=1 then (if x.ep=m.ep+1 then some ⟨x.ep,m.fs,m.s⟩ else none)
 else if x.kd=2 then (setF m.fs ⟨x.fn,x.ft⟩).map fun gs=>⟨m.ep,gs,m.s⟩
 else if x.kd=3 then (drF m.fs x.fn).map fun gs=>⟨m.ep,gs,m.s⟩
 else if x.kd=4 then (if (keepF m.s x.km x.ls x.cd x.tx).2=0 then some ⟨m.ep,m.fs,(keepF m.s x.km x.ls x.cd x.tx).1⟩ else none)
 else some ⟨m.ep,m.fs,⟨m.s.wd,[],[]⟩⟩
noncomputable def rn (f:Nat->N10) (m0:MS):Nat->Option MS
 | 0=>some m0
 | k+1=>(rn f m0 k).bind fun m=>dn m (f k)
theorem rn_agree {f g:Nat->N10} {m0:MS}:∀ (k:Nat),(∀ i,i<k->f i=g i)->rn f m0 k=rn g m0 k
 | 0,_=>rfl
 | k+1,h=>by
  unfold rn;rw [rn_agree k (fun i hi=>h i om_),h k om_]
theorem rn_some {f:Nat->N10} {m0 m:MS} {k n:Nat} (hk:k<=n) (h:rn f m0 n=some m):∃ m',rn f m0 k=some m':=by
 induction n generalizing m with
 | zero=>
  obtain rfl:k=0:=om_;exact ⟨m,h⟩
 | succ n ih=>
  by_cases hkn:k=n+1
  · exact ⟨m,hkn▸h⟩
  unfold rn at h
  cases hq:rn f m0 n with
  | none=>rw [hq] at h;cases h
  | some m'=>exact ih om_ hq
def eL (es:List ByteArray) (i:Nat):List UInt8:=(es.getD i ByteArray.empty).data.toList
def IsRp (R:List UInt8->N10->Bool->Prop) (es:List ByteArray) (m0:MS) (o:Option MS):Prop:=
 (∃ f m,(∀ i,i<es.length->R (eL es i) (f i) true)/\rn f m0 es.length=some m/\o=some m)\/
 (o=none/\∃ k f m,k<es.length/\(∀ i,i<k->R (eL es i) (f i) true)/\rn f m0 k=some m/\(R (eL es k) n10z false\/(R (eL es k) (f k) true/\dn m (f k)=none)))
theorem re_t {l:List UInt8} {x y:N10} (h:RES l x true) (k:RE l y true):x=y:=(re_same h k (fun c=>by cases c) (fun c=>by cases c)).2
theorem rp_one {es:List ByteArray} {m0:MS} {o o':Option MS} (h:IsRp RES es m0 o) (h':IsRp RE es m0 o'):o=o':=by
 rcases h with ⟨f,m,hf,hm,rfl⟩ | ⟨rfl,k,f,m,hk,hf,hm,hx⟩
 · rcases h' with ⟨g,m',hg,hm',rfl⟩ | ⟨rfl,k',g,m',hk',hg,hm',hx'⟩
   · rw [rn_agree es.length (fun i hi=>re_t (hf i hi) (hg i hi)),hm'] at hm
     exact hm.symm
   exfalso;have e:=rn_agree (m0:=m0) k' (fun i hi=>re_t (hf i om_) (hg i hi));rw [hm'] at e;obtain ⟨q,hq⟩:=rn_some (k:=k'+1) om_ hm;unfold rn at hq;rw [e] at hq;rcases hx' with hx' | ⟨hx',hd⟩
   · have:=(re_same (hf k' hk') hx' (fun c=>by cases c) (fun _=>rfl)).1
     cases this
   rw [re_t (hf k' hk') hx'] at hq;rw [show ((some m').bind fun m=>dn m (g k'))=dn m' (g k') from rfl,hd] at hq;cases hq
 rcases h' with ⟨g,m',hg,hm',rfl⟩ | ⟨rfl,_⟩;rotate_left
 · rfl
 exfalso;have e:=rn_agree (m0:=m0) k (fun i hi=>re_t (hf i hi) (hg i om_));rw [hm] at e;obtain ⟨q,hq⟩:=rn_some (k:=k+1) om_ hm';unfold rn at hq;rw [<- e] at hq;rcases hx with hx | ⟨hx,hd⟩
 · have:=(re_same hx (hg k hk) (fun _=>rfl) (fun c=>by cases c)).1
   cases this
 rw [<- re_t hx (hg k hk)] at hq;rw [show ((some m).bind fun q=>dn q (f k))=dn m (f k) from rfl,hd] at hq;cases hq
theorem asc_step {W:Int} {ts:List ByteArray} (h:AscT W ts) {k:Nat} (hk:k<ts.length) (h0:k≠0):Op.bytesLess (sumS (ts.getD (k - 1) ByteArray.empty) W).toList (sumS (ts.getD k ByteArray.empty) W).toList=true:=by
 have h':=List.pairwise_iff_getElem.1 h (k - 1) k so_ (by simpa using hk) om_;simp only [List.getElem_map] at h';have e1:ts.getD (k - 1) ByteArray.empty=ts[k - 1]:=by simp [List.getD,show k - 1<ts.length by omega]
 have e2:ts.getD k ByteArray.empty=ts[k]:=by simp [List.getD,hk]
 rw [bl_eq,e1,e2];unfold gT bef at h';rw [<- ByteArray.toList_eq,<- ByteArray.toList_eq] at h';exact h'
theorem ask_vr {ls:List L4} (h:∀ x∈ls,LkOk x) {r:Int×ByteArray} (hr:r∈askR ls):vr r.1 r.2.data.toList=true:=by
 induction ls with
 | nil=>cases hr
 | cons x l ih=>
  unfold askR at hr;split at hr
  · exact ih (fun y hy=>h y (List.mem_cons_of_mem _ hy)) hr
  rcases List.mem_cons.1 hr with rfl | hr
  · rename_i hh
    rcases (h x (List.mem_cons_self ..)).2 with ⟨k,_⟩ | ⟨_,k⟩
    · exact absurd k hh
    exact k
  exact ih (fun y hy=>h y (List.mem_cons_of_mem _ hy)) hr
theorem lks_mem {ls:List L4} (h:LksOk ls):∀ x∈ls,LkOk x:=fun x hx=>by
 obtain ⟨i,hi,rfl⟩:=List.getElem_of_mem hx;have:=h.2 i hi
 rwa [show ls.getD i l4z=ls[i] from by simp [List.getD,hi]] at this
theorem st_keep {s:St} {m:M3} {ls:List L4} {c:Int} {t:ByteArray} (h:StOk s) (hk:keepC s.wd s.ts s.rs m ls c t=0):StOk ⟨s.wd,(putAll s.wd (fmL ls c t) (s.ts,true)).1,putR s.rs (recR s.wd m ls c t)⟩:=by
 have hr:RanOk m ls c t:=by
  unfold keepC at hk;split at hk
  · cases hk
  rename_i hh;exact Classical.not_not.1 hh
 have hl:(putAll s.wd (fmL ls c t) (s.ts,true)).1.length<=300/\(putR s.rs (recR s.wd m ls c t)).length<=150:=by
  unfold keepC at hk;rw [if_neg (fun k=>k hr)] at hk;split at hk
  · cases hk
  split at hk
  · cases hk
  rename_i hh;omega
 refine ⟨h.1,⟨hl.1,fun k hk=>⟨?_,?_⟩⟩,hl.2,fun i hi=>?_⟩
 · have hm:=getD_memT hk
   have hm:=putAll_mem _ _ hm;dsimp only at hm ⊢;generalize (putAll s.wd (fmL ls c t) (s.ts,true)).1.getD k ByteArray.empty=q at hm ⊢;rcases hm with hm | hm
   · obtain ⟨r,hr1,rfl⟩:=List.mem_map.1 hm
     rcases List.mem_append.1 hr1 with h1 | h1
     · exact ⟨_,_,fm_read (ask_vr (lks_mem hr.2.1) h1)⟩
     obtain rfl:=List.mem_singleton.1 h1;exact ⟨_,_,fm_read hr.2.2⟩
   obtain ⟨i,hi,e⟩:=List.getElem_of_mem hm;have:=(h.2.1.2 i hi).1
   rwa [show s.ts.getD i ByteArray.empty=s.ts[i] from by simp [List.getD,hi],e] at this
 · by_cases h0:k=0
   · exact .inl h0
   exact .inr (asc_step (putAll_asc (asc_of_ok h)) hk h0)
 have key:∀ x∈putR s.rs (recR s.wd m ls c t),RecOk s.wd x:=fun x hx=>by
  have:x∈s.rs\/x=recR s.wd m ls c t:=by
   unfold putR at hx;split at hx
   · exact .inl hx
   simpa using hx
  rcases this with hx | rfl
  · obtain ⟨i,hi,rfl⟩:=List.getElem_of_mem hx
    have:=h.2.2.2 i hi
    rwa [show s.rs.getD i r3z=s.rs[i] from by simp [List.getD,hi]] at this
  have hz:∀ b:ByteArray,((sumS b s.wd).size:Int)=s.wd:=fun b=>by rw [sumS_size h.1];have:=h.1;omega
  refine ⟨⟨key_size hr.1,hz _,by show (ls.map _).length<=15;rw [List.length_map];exact hr.2.1.1⟩,fun i hi=>?_⟩;have hi':i<ls.length:=by simpa [recR] using hi
  have e:(recR s.wd m ls c t).gs.getD i g3z=recG s.wd (ls.getD i l4z):=by simp [recR,List.getD,hi']
  rw [e];exact ⟨(hr.2.1.2 i hi').1,hz _⟩
 have:=key _ (List.getElem_mem hi)
 rwa [show (putR s.rs (recR s.wd m ls c t)).getD i r3z=(putR s.rs (recR s.wd m ls c t))[i] from by have hi:i<(putR s.rs (recR s.wd m ls c t)).length:=hi;simp [List.getD,hi]]
end Go.Proofs.YtlckdgjfniglfaaGreatDoor
namespace Go.Proofs.YtlckdgjfniglfaaGreatDoor
open Proofs.Tryz
open Go.RowKit
structure MOk (m:MS):Prop where
 e0:0<=m.ep
 e1:m.ep<=200
 fl:m.fs.length<=40
 fz:∀ i,(m.fs.getD i T.f2z).le 4000
 st:StOk m.s
structure SpM (w:World) (b0:Nat) (m:MS) (vs:List Value):Prop where
 ok:MOk m
 ex:∃ fv tv rv,vs=[.int .i64 0,.int .i64 m.ep,fv,.int .i64 m.s.wd,tv,rv]/\w.ownsRow b0 40 2 fv m.fs.length (T.fileCells m.fs)/\StOwn w b0 m.s.ts m.s.rs tv rv
theorem SpM.keep {w w':World} {b0:Nat} {m:MS} {vs:List Value} (h:SpM w b0 m vs) (hk:∀ q t,OfT w q t->t≠31->w'.heap[q]?=w.heap[q]?):SpM w' b0 m vs:=by
 obtain ⟨fv,tv,rv,h1,h2,h3⟩:=h.ex;exact ⟨h.ok,fv,tv,rv,h1,own_keep' h2 (fun q hq=>hk q 40 (own_ofT h2 hq) dc_),stOwn_keep h3 (fun q t hT ht=>hk q t hT (by rcases ht with rfl | rfl | rfl <;> decide))⟩
theorem SpM.below {w w':World} {b0:Nat} {m:MS} {vs:List Value} (h:SpM w b0 m vs) (hb:Below w.heap.size w w'):SpM w' b0 m vs:=h.keep (fun q t hT _=>hb.block q (ofT_lt hT))
theorem own_files {w:World} {b0:Nat} {fv:Value} {fs:List T.F2} (h:w.ownsRow b0 40 2 fv fs.length (T.fileCells fs)):∃ fa fc,fv=.slice fa fs.length fc/\T.FilesAt w fa fs:=T.OwnF.form h
theorem set_small {fs gs:List T.F2} {x:T.F2} (h:T.SetR fs x 0 gs) (hf:∀ i,(fs.getD i T.f2z).le 4000):gs.length<=40/\∀ i,(gs.getD i T.f2z).le 4000:=by
 refine ⟨T.setR_len h,?_⟩;rcases h with ⟨_,c,_⟩ | ⟨_,_,c,_⟩ | ⟨_,_,_,c,_⟩ | ⟨ht,hx,_,_,k,hk,rfl⟩
 · exact absurd c dc_
 · exact absurd c dc_
 · exact absurd c dc_
 have hxl:x.le 4000:=by
  unfold T.fileOk nameOk at hx;simp only [Bool.and_eq_true,decide_eq_true_eq] at hx;have h1:=hx.1.1;have h2:=hx.2;simp only [Array.length_toList] at h1;exact ⟨by show x.nm.data.size<=_;omega,om_⟩
 have hin:∀ y∈T.ins (T.without fs x.nm) k x,y.le 4000:=fun y hy=>by
  unfold T.ins at hy;have hw:∀ z∈T.without fs x.nm,z.le 4000:=fun z hz=>by
   obtain ⟨i,hi,e⟩:=T.getD_mem (List.mem_filter.1 hz).1;rw [<- e];exact hf i
  rcases List.mem_append.1 hy with h | h
  · exact hw y (List.mem_of_mem_take h)
  rcases List.mem_cons.1 h with rfl | h
  · exact hxl
  exact hw y (List.mem_of_mem_drop h)
 intro i;by_cases hi:i<(T.ins (T.without fs x.nm) k x).length
 · rw [show (T.ins (T.without fs x.nm) k x).getD i T.f2z=(T.ins (T.without fs x.nm) k x)[i] from by simp [List.getD,hi]]
   exact hin _ (List.getElem_mem hi)
 rw [show (T.ins (T.without fs x.nm) k x).getD i T.f2z=T.f2z from by simp [List.getD,List.getElem?_eq_none (Nat.le_of_not_lt hi)]];exact ⟨dc_,dc_⟩
theorem drop_small {fs gs:List T.F2} {n:ByteArray} (h:T.DropR fs n 0 gs) (hf:∀ i,(fs.getD i T.f2z).le 4000):gs.length<=40/\∀ i,(gs.getD i T.f2z).le 4000:=by
 refine ⟨T.dropR_len h,?_⟩;rcases h with ⟨_,c,_⟩ | ⟨_,_,c,_⟩ | ⟨ht,_,_,rfl⟩
 · exact absurd c dc_
 · exact absurd c dc_
 intro i;by_cases hi:i<(T.without fs n).length
 · rw [show (T.without fs n).getD i T.f2z=(T.without fs n)[i] from by simp [List.getD,hi]]
   obtain ⟨j,hj,e⟩:=T.getD_mem (List.mem_filter.1 (List.getElem_mem hi)).1;rw [<- e];exact hf j
 rw [show (T.without fs n).getD i T.f2z=T.f2z from by simp [List.getD,List.getElem?_eq_none (Nat.le_of_not_lt hi)]];exact ⟨dc_,dc_⟩
theorem nm_20 {l:ByteArray} (h:nameOk l.data.toList=true):l.size<=20:=by
 unfold nameOk at h;simp only [Bool.and_eq_true,decide_eq_true_eq,Array.length_toList] at h;exact h.1.2
theorem st_le {s:St} (h:StOk s):s.le 1048576:=by
 obtain ⟨hw,⟨h1,h2⟩,h3,h4⟩:=h;refine ⟨⟨om_,fun i=>?_⟩,om_,fun i=>?_⟩
 · by_cases hi:i<s.ts.length
   · obtain ⟨c,t,hr⟩:=(h2 i hi).1
     obtain ⟨hv,e⟩:=hr.1 rfl;have e:=congrArg List.length e;have:=vr_len hv;simp only [Array.length_toList,List.length_cons] at e;show (s.ts.getD i ByteArray.empty).data.size<=_;omega
   rw [show s.ts.getD i ByteArray.empty=ByteArray.empty from by simp [List.getD,List.getElem?_eq_none (Nat.le_of_not_lt hi)]];decide
 by_cases hi:i<s.rs.length;rotate_left
 · rw [show s.rs.getD i r3z=r3z from by simp [List.getD,List.getElem?_eq_none (Nat.le_of_not_lt hi)]]
   exact ⟨dc_,dc_,(fun k=>⟨by show (0:Nat)<=_;omega,by show (0:Nat)<=_;omega⟩),dc_⟩
 obtain ⟨⟨a1,a2,a3⟩,a4⟩:=h4 i hi;refine ⟨om_,om_,fun k=>?_,om_⟩;by_cases hk:k<(s.rs.getD i r3z).gs.length
 · have h5:=nm_20 (a4 k hk).1
   have h6:=(a4 k hk).2;exact ⟨om_,om_⟩
 rw [show (s.rs.getD i r3z).gs.getD k g3z=g3z from by rw [List.getD,List.getElem?_eq_none (Nat.le_of_not_lt hk)];rfl];exact ⟨by show (0:Nat)<=_;omega,by show (0:Nat)<=_;omega⟩
structure D15 (w:World) (M E:List Value) (u:World):Prop where
 b:Below w.heap.size w u
 hm:Cl u w.heap.size 31 M
 he:Cl u (w.heap.size+1) 47 E
 hr:Cl u (w.heap.size+1+1) 31 [.int .i64 0,.int .i64 0,.slice none 0 0,.int .i64 0,.slice none 0 0,.slice none 0 0]
section
variable {w u u' z:World} {b0 B j:Nat} {m:MS} {x:N10} {vs M E:List Value}
theorem D15.below (h:D15 w M E u) (hb:Below u.heap.size u u'):D15 w M E u':=⟨h.b.trans (hb.mono h.b.size),h.hm.below hb h.hm.lt,h.he.below hb h.he.lt,h.hr.below hb h.hr.lt⟩
theorem D15.put (h:D15 w M E u) (j:Nat) (v:Value):D15 w (M.set j v) E (u.setCell ⟨w.heap.size,j,none⟩ v):=
 have o:=on_set u w.heap.size j v
 ⟨h.b.trans (o.below lr_),h.hm.set j v,h.he.on o om_,h.hr.on o om_⟩
theorem SpM.put (h:SpM u b0 m vs) (hB:Cl u B 31 M) (v:Value):SpM (u.setCell ⟨B,j,none⟩ v) b0 m vs:=h.keep (fun q t hT ht=>(on_set u B j v).block q (fun e=>ht (ofT_one (e▸hT) (cl_ofT hB))))
def Is15 (w:World) (b0:Nat) (m:MS) (x:N10) (e:Ending) (w':World):Prop:=∃ vs,e=.returned (.tuple #[.agg vs.toArray,.bool (dn m x).isSome])/\vs.length=6/\(∀ v∈vs,v.oneCell'=true)/\(∀ m',dn m x=some m'->SpM w' b0 m' vs)
theorem one6 {a b c d e f:Value} (ha:a.oneCell'=true) (hb:b.oneCell'=true) (hc:c.oneCell'=true) (hd:d.oneCell'=true) (he:e.oneCell'=true) (hf:f.oneCell'=true):∀ v∈[a,b,c,d,e,f],v.oneCell'=true:=fun v hv=>by
 simp at hv;rcases hv with rfl | rfl | rfl | rfl | rfl | rfl <;> assumption
theorem fin15 {tm:Array Value} {r:Bool} (h:D15 w vs E u) (cz:Cl z (w.heap.size+1+1) 31 vs) (oz:OnB (w.heap.size+1+1) u z) (hl:vs.length=6) (h1:∀ v∈vs,v.oneCell'=true) (hd:(dn m x).isSome=r) (hS:∀ m',dn m x=some m'->SpM u b0 m' vs) (t4:tm.getD 4 undef=.pointer (some ⟨w.heap.size+1+1,0,none⟩)) (t5:tm.getD 5 undef=.bool r):bodyPost prog f15 (fun e w'=>Is15 w b0 m x e w'/\Below w.heap.size w w') .ret ⟨tm,[]⟩ z:=
 bodyPost_ret (v:=.tuple #[.agg vs.toArray,.bool r]) (results_blk2 rfl tm z (w.heap.size+1+1) vs (.bool r) _ t4 t5 cz.blk underlying31 rfl (by rw [hl];kernel_rfl)) rfl ⟨⟨vs,by rw [hd],hl,h1,fun m' hm'=>(hS m' hm').keep (fun q t hT ht=>oz.block q (fun e=>ht (ofT_one (e▸hT) (cl_ofT h.hr))))⟩,h.b.trans (oz.below om_)⟩
end
section
variable {m:MS} {n c:Int} {a b t:ByteArray} {km:M3} {ls:List L4}
theorem dn_1:dn m (eEpoch n)=if n=m.ep+1 then some ⟨n,m.fs,m.s⟩ else none:=rfl
theorem dn_2:dn m (eFile a b)=(setF m.fs ⟨a,b⟩).map fun gs=>⟨m.ep,gs,m.s⟩:=rfl
theorem dn_3:dn m (eDrop a)=(drF m.fs a).map fun gs=>⟨m.ep,gs,m.s⟩:=rfl
theorem dn_4:dn m (eRan km ls c t)=if (keepF m.s km ls c t).2=0 then some ⟨m.ep,m.fs,(keepF m.s km ls c t).1⟩ else none:=rfl
theorem dn_5:dn m eClear=some ⟨m.ep,m.fs,⟨m.s.wd,[],[]⟩⟩:=rfl
end
theorem st_nil {W:Int} (h:1<=W/\W<=8):StOk ⟨W,[],[]⟩:=⟨h,⟨by show (0:Nat)<=300;omega,fun k hk=>absurd hk (Nat.not_lt_zero _)⟩,by show (0:Nat)<=150;omega,fun k hk=>absurd hk (Nat.not_lt_zero _)⟩
theorem keep_st {s:St} {m:M3} {ls:List L4} {c:Int} {t:ByteArray} (h:StOk s) (hk:(keepF s m ls c t).2=0):StOk (keepF s m ls c t).1:=by
 obtain ⟨k1,k2⟩:=keepF_ok (m:=m) (ls:=ls) (c:=c) (t:=t) h;by_cases hc:keepC s.wd s.ts s.rs m ls c t=0
 · rw [k1 hc];exact st_keep h hc
 rw [k2 hc] at hk;exact absurd hk hc
theorem keep_wd {s:St} {m:M3} {ls:List L4} {c:Int} {t:ByteArray} (h:StOk s) (hk:(keepF s m ls c t).2=0):(keepF s m ls c t).1.wd=s.wd:=by
 obtain ⟨k1,k2⟩:=keepF_ok (m:=m) (ls:=ls) (c:=c) (t:=t) h;by_cases hc:keepC s.wd s.ts s.rs m ls c t=0
 · rw [k1 hc]
 rw [k2 hc] at hk;exact absurd hk hc
theorem SpM.parts {w:World} {b0:Nat} {m:MS} {a b c d e:Value} {fv:Value} (h:SpM w b0 m [a,b,fv,c,d,e]):w.ownsRow b0 40 2 fv m.fs.length (T.fileCells m.fs)/\StOwn w b0 m.s.ts m.s.rs d e:=by
 obtain ⟨q1,q2,q3,q4,q5,q6⟩:=h.ex;injection q4 with _ q4;injection q4 with _ q4;injection q4 with r1 q4;injection q4 with _ q4;injection q4 with r2 q4;injection q4 with r3 q4;subst r1 r2 r3;exact ⟨q5,q6⟩
theorem c15 (b0:Nat) (m:MS) (vs:List Value) (x:N10) (ai:Option Addr) (ci:Nat) (w:World) (hM:SpM w b0 m vs) (hb0:b0<=w.heap.size) (hx:EntOk x) (hxl:x.le 1048576) (hlk:LksAt w ai x.ls):
 Calls prog 15 #[.agg vs.toArray,.agg (x.c ai ci).toArray] w fun e w'=>Is15 w b0 m x e w'/\Below w.heap.size w w':=by
 obtain ⟨fv,tv,rv,rfl,hf,hst⟩:=hM.ex;obtain ⟨fa,fc,rfl,hat⟩:=own_files hf;have HST:=hI_ hst;obtain ⟨ta,tc,rfl⟩:=row_sl hst.1;obtain ⟨_,vs0,hr0⟩:=hst;obtain ⟨ra,rc,rfl⟩:=row_sl hr0.row;clear hr0 hf;have HM:=hI_ hM;have HLK:=hI_ hlk;have HAT:=hI_ hat;have e0:=hM.ok.e0;have e1:=hM.ok.e1;clear hM hlk hat;go_enter func15,ntmps15
 go_upto_region 2 with fail
 obtain ⟨W,hW⟩:∃ W:World,W=((w.alloc (.cells #[.int .i64 0,.int .i64 m.ep,.slice fa m.fs.length fc,.int .i64 m.s.wd,.slice ta m.s.ts.length tc,.slice ra m.s.rs.length rc] 31)).alloc (.cells (x.c ai ci).toArray 47)).alloc (.cells #[.int .i64 0,.int .i64 0,.slice none 0 0,.int .i64 0,.slice none 0 0,.slice none 0 0] 31):=⟨_,rfl⟩;rw [<- hW];have H:Hid (D15 w [.int .i64 0,.int .i64 m.ep,.slice fa m.fs.length fc,.int .i64 m.s.wd,.slice ta m.s.ts.length tc,.slice ra m.s.rs.length rc] (x.c ai ci) W):=by
  rw [hW];exact ⟨(bA_.alloc sm_ _).alloc so_ _,cl_old (cl_old (cl_new w [_,_,_,_,_,_] 31) _) _,cl_old (cl_at sm_) _,cl_at (xs:=[.int .i64 0,.int .i64 0,.slice none 0 0,.int .i64 0,.slice none 0 0,.slice none 0 0]) sm_⟩
 clear hW;have HS:=hI_ (HM.out.below H.out.b);have k0:=H.out.he.cell 0;rcases hx with ⟨n,hn,rfl⟩ | ⟨a,b,h,rfl⟩ | ⟨a,h,rfl⟩ | ⟨km,ls,c,t,h,rfl⟩ | rfl
 · have k1:=H.out.he.cell 1
   have m1:=H.out.hm.cell 1;have mf:=H.out.hm.opn 1;dsimp only [eEpoch,N10.c,List.getElem?_cons_zero,List.getElem?_cons_succ] at k0 k1 m1;by_cases hne:n=m.ep+1;rotate_left
   · have HD:Hid (dn m (eEpoch n)=none):=if_neg hne
     go_upto_region 5 with fail
     have HON:Hid (∀ v∈([.int .i64 0,.int .i64 m.ep,.slice fa m.fs.length fc,.int .i64 m.s.wd,.slice ta m.s.ts.length tc,.slice ra m.s.rs.length rc]:List Value),v.oneCell'=true):=one6 rfl rfl rfl rfl rfl rfl
     go_wp2_with (first | (refine wl_val rfl (ex_ldN 31 _ rfl (B:=w.heap.size) (j:=0) (cs:=[.int .i64 0,.int .i64 m.ep,.slice fa m.fs.length fc,.int .i64 m.s.wd,.slice ta m.s.ts.length tc,.slice ra m.s.rs.length rc]) rfl (fun q v e=>by rw [Nat.zero_add];exact (H.out.hm.cell q).trans e) underlying31 rfl kr_) ?_) | (refine wl_stN rfl 31 _ _ rfl (B:=w.heap.size+1+1) (j:=0) rfl (vs:=[.int .i64 0,.int .i64 m.ep,.slice fa m.fs.length fc,.int .i64 m.s.wd,.slice ta m.s.ts.length tc,.slice ra m.s.rs.length rc]) rfl H.out.hr lr_ HON.out kr_ ?_;intro z cz oz))
     exact fin15 H.out cz oz rfl HON.out (by rw [HD.out];rfl) (fun m' c=>by rw [HD.out] at c;cases c) rfl rfl
   obtain rfl:=hne;have HD:Hid (dn m (eEpoch (m.ep+1))=some ⟨m.ep+1,m.fs,m.s⟩):=by show _=_;exact dn_1.trans (if_pos rfl)
   have H2:=hI_ (H.out.put 1 (.int .i64 (m.ep+1)));have HS2:Hid (SpM (W.setCell ⟨w.heap.size,1,none⟩ (.int .i64 (m.ep+1))) b0 ⟨m.ep+1,m.fs,m.s⟩ [.int .i64 0,.int .i64 (m.ep+1),.slice fa m.fs.length fc,.int .i64 m.s.wd,.slice ta m.s.ts.length tc,.slice ra m.s.rs.length rc]):=by
    have h:=HS.out.put (j:=1) H.out.hm (.int .i64 (m.ep+1));obtain ⟨q5,q6⟩:=h.parts;exact ⟨⟨by show 0<=m.ep+1;omega,hn.2,h.ok.fl,h.ok.fz,h.ok.st⟩,_,_,_,rfl,q5,q6⟩
   go_upto_region 15 with fail
   dsimp only [List.set_cons_succ,List.set_cons_zero] at H2;generalize W.setCell ⟨w.heap.size,1,none⟩ (.int .i64 (m.ep+1))=V at*;have HON:Hid (∀ v∈([.int .i64 0,.int .i64 (m.ep+1),.slice fa m.fs.length fc,.int .i64 m.s.wd,.slice ta m.s.ts.length tc,.slice ra m.s.rs.length rc]:List Value),v.oneCell'=true):=one6 rfl rfl rfl rfl rfl rfl
   go_wp2_with (first | (refine wl_val rfl (ex_ldN 31 _ rfl (B:=w.heap.size) (j:=0) (cs:=[.int .i64 0,.int .i64 (m.ep+1),.slice fa m.fs.length fc,.int .i64 m.s.wd,.slice ta m.s.ts.length tc,.slice ra m.s.rs.length rc]) rfl (fun q v e=>by rw [Nat.zero_add];exact (H2.out.hm.cell q).trans e) underlying31 rfl kr_) ?_) | (refine wl_stN rfl 31 _ _ rfl (B:=w.heap.size+1+1) (j:=0) rfl (vs:=[.int .i64 0,.int .i64 (m.ep+1),.slice fa m.fs.length fc,.int .i64 m.s.wd,.slice ta m.s.ts.length tc,.slice ra m.s.rs.length rc]) rfl H2.out.hr lr_ HON.out kr_ ?_;intro z cz oz))
   exact fin15 H2.out cz oz rfl HON.out (by rw [HD.out];rfl) (fun m' c=>by rw [HD.out] at c;cases c;exact HS2.out) rfl rfl
 · have k1:=H.out.he.cell 2
   have k2:=H.out.he.cell 3;have m2:=H.out.hm.cell 2;have HX4:Hid ((⟨a,b⟩:T.F2).le 4000):=⟨by have:=nm_20 h.1;show a.size<=4000;omega,by show b.size<=4000;omega⟩;dsimp only [eFile,N10.c,List.getElem?_cons_zero,List.getElem?_cons_succ] at k0 k1 k2 m2
   go_upto_region 8 with fail
   go_wp2_with fail
   refine (T.c36 fa fc m.fs ⟨a,b⟩ W (by have:=HM.out.ok.fl;omega) HM.out.ok.fz HX4.out (T.files_below HAT.out H.out.b)).mono ?_;rintro e w1 ⟨⟨v,cd,gs,rfl,ho,_,_,hR⟩,hb1⟩;obtain ⟨ga,gc,rfl⟩:=row_sl ho;have H1:=hI_ (H.out.below hb1);have d2:=H1.out.hm.cell 2;have f2:=H1.out.hm.opn 2;dsimp only [List.getElem?_cons_zero,List.getElem?_cons_succ] at d2
   go_upto_region 15 with fail
   have H2:=hI_ (H1.out.put 2 (.slice ga gs.length gc));dsimp only [List.set_cons_succ,List.set_cons_zero] at H2;have HS2:Hid (cd=0->SpM (w1.setCell ⟨w.heap.size,2,none⟩ (.slice ga gs.length gc)) b0 ⟨m.ep,gs,m.s⟩ [.int .i64 0,.int .i64 m.ep,.slice ga gs.length gc,.int .i64 m.s.wd,.slice ta m.s.ts.length tc,.slice ra m.s.rs.length rc]):=fun hc=>by
    subst hc;have hs:=set_small hR HM.out.ok.fz;have h:SpM w1 b0 ⟨m.ep,gs,m.s⟩ [.int .i64 0,.int .i64 m.ep,.slice ga gs.length gc,.int .i64 m.s.wd,.slice ta m.s.ts.length tc,.slice ra m.s.rs.length rc]:=⟨⟨e0,e1,hs.1,hs.2,HM.out.ok.st⟩,_,_,_,rfl,own_low ho (Nat.le_trans hb0 H.out.b.size),(HM.out.below H1.out.b).parts.2⟩;exact h.put H1.out.hm _
   have HDD:Hid (dn m (eFile a b)=if cd=0 then some ⟨m.ep,gs,m.s⟩ else none):=by
    show _=_;by_cases hc:cd=0
    · subst hc
      rw [if_pos rfl];rw [dn_2,setF_0 hR];rfl
    rw [if_neg hc];rw [dn_2,setF_n hR hc];rfl
   clear hb1 d2 f2 H1 ho hR;generalize w1.setCell ⟨w.heap.size,2,none⟩ (.slice ga gs.length gc)=V at*;by_cases hc:cd=0
   · subst hc
     have HD:=hI_ (HDD.out.trans (if_pos rfl));clear HDD;have HON:Hid (∀ v∈([.int .i64 0,.int .i64 m.ep,.slice ga gs.length gc,.int .i64 m.s.wd,.slice ta m.s.ts.length tc,.slice ra m.s.rs.length rc]:List Value),v.oneCell'=true):=one6 rfl rfl rfl rfl rfl rfl
     go_wp2_with (first | (refine wl_val rfl (ex_ldN 31 _ rfl (B:=w.heap.size) (j:=0) (cs:=[.int .i64 0,.int .i64 m.ep,.slice ga gs.length gc,.int .i64 m.s.wd,.slice ta m.s.ts.length tc,.slice ra m.s.rs.length rc]) rfl (fun q v e=>by rw [Nat.zero_add];exact (H2.out.hm.cell q).trans e) underlying31 rfl kr_) ?_) | (refine wl_stN rfl 31 _ _ rfl (B:=w.heap.size+1+1) (j:=0) rfl (vs:=[.int .i64 0,.int .i64 m.ep,.slice ga gs.length gc,.int .i64 m.s.wd,.slice ta m.s.ts.length tc,.slice ra m.s.rs.length rc]) rfl H2.out.hr lr_ HON.out kr_ ?_;intro z cz oz))
     exact fin15 H2.out cz oz rfl HON.out (by rw [HD.out];rfl) (fun m' c=>by rw [HD.out] at c;cases c;exact HS2.out sm_) rfl rfl
   have hc':(cd==0)=false:=by simpa using hc
   have HD:=hI_ (HDD.out.trans (if_neg hc));clear HDD HS2;have HON:Hid (∀ v∈([.int .i64 0,.int .i64 m.ep,.slice ga gs.length gc,.int .i64 m.s.wd,.slice ta m.s.ts.length tc,.slice ra m.s.rs.length rc]:List Value),v.oneCell'=true):=one6 rfl rfl rfl rfl rfl rfl
   go_wp2_with (first | (refine wl_val rfl (ex_ldN 31 _ rfl (B:=w.heap.size) (j:=0) (cs:=[.int .i64 0,.int .i64 m.ep,.slice ga gs.length gc,.int .i64 m.s.wd,.slice ta m.s.ts.length tc,.slice ra m.s.rs.length rc]) rfl (fun q v e=>by rw [Nat.zero_add];exact (H2.out.hm.cell q).trans e) underlying31 rfl kr_) ?_) | (refine wl_stN rfl 31 _ _ rfl (B:=w.heap.size+1+1) (j:=0) rfl (vs:=[.int .i64 0,.int .i64 m.ep,.slice ga gs.length gc,.int .i64 m.s.wd,.slice ta m.s.ts.length tc,.slice ra m.s.rs.length rc]) rfl H2.out.hr lr_ HON.out kr_ ?_;intro z cz oz))
   exact fin15 H2.out cz oz rfl HON.out (by rw [HD.out];rfl) (fun m' c=>by rw [HD.out] at c;cases c) rfl rfl
 · have k1:=H.out.he.cell 2
   have k2:=H.out.he.cell 3;have m2:=H.out.hm.cell 2;have HFZ:Hid (∀ i,(m.fs.getD i T.f2z).le 1048576):=fun i=>⟨Nat.le_trans (HM.out.ok.fz i).1 dc_,Nat.le_trans (HM.out.ok.fz i).2 dc_⟩;dsimp only [eDrop,N10.c,List.getElem?_cons_zero,List.getElem?_cons_succ] at k0 k1 k2 m2
   go_upto_region 10 with fail
   go_wp2_with fail
   refine (T.c37 fa fc m.fs a W (by have:=HM.out.ok.fl;omega) HFZ.out (T.files_below HAT.out H.out.b)).mono ?_;rintro e w1 ⟨⟨v,cd,gs,rfl,ho,hR⟩,hb1⟩;obtain ⟨ga,gc,rfl⟩:=row_sl ho;have H1:=hI_ (H.out.below hb1);have d2:=H1.out.hm.cell 2;have f2:=H1.out.hm.opn 2;dsimp only [List.getElem?_cons_zero,List.getElem?_cons_succ] at d2
   go_upto_region 15 with fail
   have H2:=hI_ (H1.out.put 2 (.slice ga gs.length gc));dsimp only [List.set_cons_succ,List.set_cons_zero] at H2;have HS2:Hid (cd=0->SpM (w1.setCell ⟨w.heap.size,2,none⟩ (.slice ga gs.length gc)) b0 ⟨m.ep,gs,m.s⟩ [.int .i64 0,.int .i64 m.ep,.slice ga gs.length gc,.int .i64 m.s.wd,.slice ta m.s.ts.length tc,.slice ra m.s.rs.length rc]):=fun hc=>by
    subst hc;have hs:=drop_small hR HM.out.ok.fz;have h:SpM w1 b0 ⟨m.ep,gs,m.s⟩ [.int .i64 0,.int .i64 m.ep,.slice ga gs.length gc,.int .i64 m.s.wd,.slice ta m.s.ts.length tc,.slice ra m.s.rs.length rc]:=⟨⟨e0,e1,hs.1,hs.2,HM.out.ok.st⟩,_,_,_,rfl,own_low ho (Nat.le_trans hb0 H.out.b.size),(HM.out.below H1.out.b).parts.2⟩;exact h.put H1.out.hm _
   have HDD:Hid (dn m (eDrop a)=if cd=0 then some ⟨m.ep,gs,m.s⟩ else none):=by
    show _=_;by_cases hc:cd=0
    · subst hc
      rw [if_pos rfl];rw [dn_3,drF_0 hR];rfl
    rw [if_neg hc];rw [dn_3,drF_n hR hc];rfl
   clear hb1 d2 f2 H1 ho hR;generalize w1.setCell ⟨w.heap.size,2,none⟩ (.slice ga gs.length gc)=V at*;by_cases hc:cd=0
   · subst hc
     have HD:=hI_ (HDD.out.trans (if_pos rfl));clear HDD;have HON:Hid (∀ v∈([.int .i64 0,.int .i64 m.ep,.slice ga gs.length gc,.int .i64 m.s.wd,.slice ta m.s.ts.length tc,.slice ra m.s.rs.length rc]:List Value),v.oneCell'=true):=one6 rfl rfl rfl rfl rfl rfl
     go_wp2_with (first | (refine wl_val rfl (ex_ldN 31 _ rfl (B:=w.heap.size) (j:=0) (cs:=[.int .i64 0,.int .i64 m.ep,.slice ga gs.length gc,.int .i64 m.s.wd,.slice ta m.s.ts.length tc,.slice ra m.s.rs.length rc]) rfl (fun q v e=>by rw [Nat.zero_add];exact (H2.out.hm.cell q).trans e) underlying31 rfl kr_) ?_) | (refine wl_stN rfl 31 _ _ rfl (B:=w.heap.size+1+1) (j:=0) rfl (vs:=[.int .i64 0,.int .i64 m.ep,.slice ga gs.length gc,.int .i64 m.s.wd,.slice ta m.s.ts.length tc,.slice ra m.s.rs.length rc]) rfl H2.out.hr lr_ HON.out kr_ ?_;intro z cz oz))
     exact fin15 H2.out cz oz rfl HON.out (by rw [HD.out];rfl) (fun m' c=>by rw [HD.out] at c;cases c;exact HS2.out sm_) rfl rfl
   have hc':(cd==0)=false:=by simpa using hc
   have HD:=hI_ (HDD.out.trans (if_neg hc));clear HDD HS2;have HON:Hid (∀ v∈([.int .i64 0,.int .i64 m.ep,.slice ga gs.length gc,.int .i64 m.s.wd,.slice ta m.s.ts.length tc,.slice ra m.s.rs.length rc]:List Value),v.oneCell'=true):=one6 rfl rfl rfl rfl rfl rfl
   go_wp2_with (first | (refine wl_val rfl (ex_ldN 31 _ rfl (B:=w.heap.size) (j:=0) (cs:=[.int .i64 0,.int .i64 m.ep,.slice ga gs.length gc,.int .i64 m.s.wd,.slice ta m.s.ts.length tc,.slice ra m.s.rs.length rc]) rfl (fun q v e=>by rw [Nat.zero_add];exact (H2.out.hm.cell q).trans e) underlying31 rfl kr_) ?_) | (refine wl_stN rfl 31 _ _ rfl (B:=w.heap.size+1+1) (j:=0) rfl (vs:=[.int .i64 0,.int .i64 m.ep,.slice ga gs.length gc,.int .i64 m.s.wd,.slice ta m.s.ts.length tc,.slice ra m.s.rs.length rc]) rfl H2.out.hr lr_ HON.out kr_ ?_;intro z cz oz))
   exact fin15 H2.out cz oz rfl HON.out (by rw [HD.out];rfl) (fun m' c=>by rw [HD.out] at c;cases c) rfl rfl
 · have k4:=H.out.he.cell 4
   have k5:=H.out.he.cell 5;have k6:=H.out.he.cell 6;have k7:=H.out.he.cell 7;have k8:=H.out.he.cell 8;have k9:=H.out.he.cell 9;have m3:=H.out.hm.cell 3;have m4:=H.out.hm.cell 4;have m5:=H.out.hm.cell 5;dsimp only [eRan,N10.c,List.getElem?_cons_zero,List.getElem?_cons_succ] at k0 k4 k5 k6 k7 k8 k9 m3 m4 m5;have hc38:=c38 m.s km ls c t b0 ta ra ai tc rc ci W (st_le HM.out.ok.st) hxl.2.2.1 hxl.2.2.2.1.1 hxl.2.2.2.1.2 hxl.2.2.2.2 HS.out.parts.2 (lks_below HLK.out H.out.b);have HKS:=hI_ (keep_st (m:=km) (ls:=ls) (c:=c) (t:=t) HM.out.ok.st);have HKW:=hI_ (keep_wd (m:=km) (ls:=ls) (c:=c) (t:=t) HM.out.ok.st);have HDD:Hid (dn m (eRan km ls c t)=_):=dn_4;unfold IsKeep at hc38;generalize keepF m.s km ls c t=K at*
   go_upto_region 12 with fail
   go_wp2_with fail
   refine hc38.mono ?_;rintro e w1 ⟨⟨ta2,tc2,ra2,rc2,rfl,ho⟩,hb1⟩;have H1:=hI_ (H.out.below hb1);have d3:=H1.out.hm.cell 3;have d4:=H1.out.hm.cell 4;have d5:=H1.out.hm.cell 5;have f3:=H1.out.hm.opn 3;have f4:=H1.out.hm.opn 4;have f5:=H1.out.hm.opn 5;dsimp only [List.getElem?_cons_zero,List.getElem?_cons_succ] at d3 d4 d5
   go_upto_region 15 with fail
   have H2:=hI_ (((H1.out.put 3 (.int .i64 K.1.wd)).put 4 (.slice ta2 K.1.ts.length tc2)).put 5 (.slice ra2 K.1.rs.length rc2));dsimp only [List.set_cons_succ,List.set_cons_zero] at H2;have HS2:Hid (K.2=0->SpM (((w1.setCell ⟨w.heap.size,3,none⟩ (.int .i64 K.1.wd)).setCell ⟨w.heap.size,4,none⟩ (.slice ta2 K.1.ts.length tc2)).setCell ⟨w.heap.size,5,none⟩ (.slice ra2 K.1.rs.length rc2)) b0 ⟨m.ep,m.fs,K.1⟩ [.int .i64 0,.int .i64 m.ep,.slice fa m.fs.length fc,.int .i64 K.1.wd,.slice ta2 K.1.ts.length tc2,.slice ra2 K.1.rs.length rc2]):=fun hc=>by
    have h:SpM w1 b0 ⟨m.ep,m.fs,K.1⟩ [.int .i64 0,.int .i64 m.ep,.slice fa m.fs.length fc,.int .i64 K.1.wd,.slice ta2 K.1.ts.length tc2,.slice ra2 K.1.rs.length rc2]:=⟨⟨e0,e1,HM.out.ok.fl,HM.out.ok.fz,HKS.out hc⟩,_,_,_,rfl,(HM.out.below H1.out.b).parts.1,stOwn_low ho (Nat.le_trans hb0 H.out.b.size)⟩;exact ((h.put H1.out.hm _).put (H1.out.put 3 _).hm _).put ((H1.out.put 3 _).put 4 _).hm _
   clear hb1 d3 d4 d5 f3 f4 f5 H1 ho hc38;generalize ((w1.setCell ⟨w.heap.size,3,none⟩ (.int .i64 K.1.wd)).setCell ⟨w.heap.size,4,none⟩ (.slice ta2 K.1.ts.length tc2)).setCell ⟨w.heap.size,5,none⟩ (.slice ra2 K.1.rs.length rc2)=V at*;obtain ⟨cd,hcd⟩:∃ cd,cd=K.2:=⟨_,rfl⟩;rw [<- hcd] at HDD HS2 ⊢;clear hcd;by_cases hc:cd=0
   · subst hc
     have HD:=hI_ (HDD.out.trans (if_pos rfl));clear HDD;have HON:Hid (∀ v∈([.int .i64 0,.int .i64 m.ep,.slice fa m.fs.length fc,.int .i64 K.1.wd,.slice ta2 K.1.ts.length tc2,.slice ra2 K.1.rs.length rc2]:List Value),v.oneCell'=true):=one6 rfl rfl rfl rfl rfl rfl
     go_wp2_with (first | (refine wl_val rfl (ex_ldN 31 _ rfl (B:=w.heap.size) (j:=0) (cs:=[.int .i64 0,.int .i64 m.ep,.slice fa m.fs.length fc,.int .i64 K.1.wd,.slice ta2 K.1.ts.length tc2,.slice ra2 K.1.rs.length rc2]) rfl (fun q v e=>by rw [Nat.zero_add];exact (H2.out.hm.cell q).trans e) underlying31 rfl kr_) ?_) | (refine wl_stN rfl 31 _ _ rfl (B:=w.heap.size+1+1) (j:=0) rfl (vs:=[.int .i64 0,.int .i64 m.ep,.slice fa m.fs.length fc,.int .i64 K.1.wd,.slice ta2 K.1.ts.length tc2,.slice ra2 K.1.rs.length rc2]) rfl H2.out.hr lr_ HON.out kr_ ?_;intro z cz oz))
     exact fin15 H2.out cz oz rfl HON.out (by rw [HD.out];rfl) (fun m' c=>by rw [HD.out] at c;cases c;exact HS2.out sm_) rfl rfl
   have hc':(cd==0)=false:=by simpa using hc
   have HD:=hI_ (HDD.out.trans (if_neg hc));clear HDD HS2;have HON:Hid (∀ v∈([.int .i64 0,.int .i64 m.ep,.slice fa m.fs.length fc,.int .i64 K.1.wd,.slice ta2 K.1.ts.length tc2,.slice ra2 K.1.rs.length rc2]:List Value),v.oneCell'=true):=one6 rfl rfl rfl rfl rfl rfl
   go_wp2_with (first | (refine wl_val rfl (ex_ldN 31 _ rfl (B:=w.heap.size) (j:=0) (cs:=[.int .i64 0,.int .i64 m.ep,.slice fa m.fs.length fc,.int .i64 K.1.wd,.slice ta2 K.1.ts.length tc2,.slice ra2 K.1.rs.length rc2]) rfl (fun q v e=>by rw [Nat.zero_add];exact (H2.out.hm.cell q).trans e) underlying31 rfl kr_) ?_) | (refine wl_stN rfl 31 _ _ rfl (B:=w.heap.size+1+1) (j:=0) rfl (vs:=[.int .i64 0,.int .i64 m.ep,.slice fa m.fs.length fc,.int .i64 K.1.wd,.slice ta2 K.1.ts.length tc2,.slice ra2 K.1.rs.length rc2]) rfl H2.out.hr lr_ HON.out kr_ ?_;intro z cz oz))
   exact fin15 H2.out cz oz rfl HON.out (by rw [HD.out];rfl) (fun m' c=>by rw [HD.out] at c;cases c) rfl rfl
 have m3:=H.out.hm.cell 3;have m4:=H.out.hm.cell 4;have m5:=H.out.hm.cell 5;have f3:=H.out.hm.opn 3;have f4:=H.out.hm.opn 4;have f5:=H.out.hm.opn 5;dsimp only [eClear,N10.c,List.getElem?_cons_zero,List.getElem?_cons_succ] at k0 m3 m4 m5;have HD:Hid (dn m eClear=_):=dn_5
 go_upto_region 15 with fail
 have H2:=hI_ (((H.out.put 3 (.int .i64 m.s.wd)).put 4 (.slice none 0 0)).put 5 (.slice none 0 0));dsimp only [List.set_cons_succ,List.set_cons_zero] at H2;have HS2:Hid (SpM (((W.setCell ⟨w.heap.size,3,none⟩ (.int .i64 m.s.wd)).setCell ⟨w.heap.size,4,none⟩ (.slice none 0 0)).setCell ⟨w.heap.size,5,none⟩ (.slice none 0 0)) b0 ⟨m.ep,m.fs,⟨m.s.wd,[],[]⟩⟩ [.int .i64 0,.int .i64 m.ep,.slice fa m.fs.length fc,.int .i64 m.s.wd,.slice none 0 0,.slice none 0 0]):=by
  have h:SpM W b0 ⟨m.ep,m.fs,⟨m.s.wd,[],[]⟩⟩ [.int .i64 0,.int .i64 m.ep,.slice fa m.fs.length fc,.int .i64 m.s.wd,.slice none 0 0,.slice none 0 0]:=⟨⟨e0,e1,HM.out.ok.fl,HM.out.ok.fz,st_nil HM.out.ok.st.1⟩,_,_,_,rfl,HS.out.parts.1,stOwn_nil _ _⟩;exact ((h.put H.out.hm _).put (H.out.put 3 _).hm _).put ((H.out.put 3 _).put 4 _).hm _
 clear m3 m4 m5 f3 f4 f5;generalize ((W.setCell ⟨w.heap.size,3,none⟩ (.int .i64 m.s.wd)).setCell ⟨w.heap.size,4,none⟩ (.slice none 0 0)).setCell ⟨w.heap.size,5,none⟩ (.slice none 0 0)=V at*;have HON:Hid (∀ v∈([.int .i64 0,.int .i64 m.ep,.slice fa m.fs.length fc,.int .i64 m.s.wd,.slice none 0 0,.slice none 0 0]:List Value),v.oneCell'=true):=one6 rfl rfl rfl rfl rfl rfl
 go_wp2_with (first | (refine wl_val rfl (ex_ldN 31 _ rfl (B:=w.heap.size) (j:=0) (cs:=[.int .i64 0,.int .i64 m.ep,.slice fa m.fs.length fc,.int .i64 m.s.wd,.slice none 0 0,.slice none 0 0]) rfl (fun q v e=>by rw [Nat.zero_add];exact (H2.out.hm.cell q).trans e) underlying31 rfl kr_) ?_) | (refine wl_stN rfl 31 _ _ rfl (B:=w.heap.size+1+1) (j:=0) rfl (vs:=[.int .i64 0,.int .i64 m.ep,.slice fa m.fs.length fc,.int .i64 m.s.wd,.slice none 0 0,.slice none 0 0]) rfl H2.out.hr lr_ HON.out kr_ ?_;intro z cz oz))
 exact fin15 H2.out cz oz rfl HON.out (by rw [HD.out];rfl) (fun m' c=>by rw [HD.out] at c;cases c;exact HS2.out) rfl rfl
end Go.Proofs.YtlckdgjfniglfaaGreatDoor
namespace Go.Proofs.YtlckdgjfniglfaaGreatDoor
open Proofs.Tryz
open Go.RowKit
def m00 (W:Int):MS:=⟨0,[],⟨W,[],[]⟩⟩
def RpIn (es:List ByteArray) (W:Int):Prop:=(1<=W/\W<=8)/\es.length<=1000
def Rp5 (w:World) (es:List ByteArray) (W:Int) (e:Ending) (w':World):Prop:=∃ vs,e=.returned (.agg vs.toArray)/\((¬ RpIn es W/\vs=[.int .i64 1,.int .i64 0,.slice none 0 0,.int .i64 0,.slice none 0 0,.slice none 0 0])\/(RpIn es W/\∃ o,IsRp RES es (m00 W) o/\((o=none/\vs=[.int .i64 2,.int .i64 0,.slice none 0 0,.int .i64 0,.slice none 0 0,.slice none 0 0])\/∃ m,o=some m/\SpM w' w.heap.size m vs)))
structure Q5 (w:World) (B:Nat) (m:MS) (vs:List Value) (u:World):Prop where
 b:Below w.heap.size w u
 hB:w.heap.size<B
 hr:Cl u w.heap.size 31 [.int .i64 0,.int .i64 0,.slice none 0 0,.int .i64 0,.slice none 0 0,.slice none 0 0]
 hm:Cl u B 31 vs
 sp:SpM u w.heap.size m vs
section
variable {w u u' z:World} {m:MS} {vs:List Value} {es:List ByteArray} {W:Int}
theorem Q5.below {B:Nat} (h:Q5 w B m vs u) (hb:Below u.heap.size u u'):Q5 w B m vs u':=⟨h.b.trans (hb.mono h.b.size),h.hB,h.hr.below hb h.hr.lt,h.hm.below hb h.hm.lt,h.sp.below hb⟩
def upd (f:Nat->N10) (k:Nat) (x:N10):Nat->N10:=fun j=>if j=k then x else f j
theorem upd_k {f:Nat->N10} {k:Nat} {x:N10}:upd f k x k=x:=if_pos rfl
theorem upd_n {f:Nat->N10} {k j:Nat} {x:N10} (h:j<k):upd f k x j=f j:=if_neg om_
section
variable {R:List UInt8->N10->Bool->Prop} {m0 m m':MS} {f:Nat->N10} {k:Nat} {x:N10}
theorem rp_next (hF:∀ j,j<k->R (eL es j) (f j) true) (hR:rn f m0 k=some m) (hx:R (eL es k) x true) (hd:dn m x=some m'):(∀ j,j<k+1->R (eL es j) (upd f k x j) true)/\rn (upd f k x) m0 (k+1)=some m':=by
 refine ⟨fun j hj=>?_,?_⟩
 · by_cases h:j=k
   · subst h;rw [upd_k];exact hx
   rw [upd_n om_];exact hF j om_
 show (rn _ _ k).bind _=_;rw [rn_agree (g:=f) k (fun j hj=>upd_n hj),hR];show dn m _=_;rw [upd_k];exact hd
theorem rp_bad (hlt:k<es.length) (hF:∀ j,j<k->R (eL es j) (f j) true) (hR:rn f m0 k=some m) (hx:R (eL es k) x true) (hd:dn m x=none):IsRp R es m0 none:=
 .inr ⟨rfl,k,upd f k x,m,hlt,fun j hj=>(by rw [upd_n hj];exact hF j hj),(rn_agree k (fun j hj=>upd_n hj)).trans hR,.inr ⟨(by rw [upd_k];exact hx),(by rw [upd_k];exact hd)⟩⟩
theorem rp_no (hlt:k<es.length) (hF:∀ j,j<k->R (eL es j) (f j) true) (hR:rn f m0 k=some m) (hx:R (eL es k) n10z false):IsRp R es m0 none:=.inr ⟨rfl,k,f,m,hlt,hF,hR,.inl hx⟩
theorem rp_all (hF:∀ j,j<es.length->R (eL es j) (f j) true) (hR:rn f m0 es.length=some m):IsRp R es m0 (some m):=.inl ⟨f,m,hF,hR,rfl⟩
end
theorem putL_all {a b c d e f:Value} (h:vs.length=6):putL [a,b,c,d,e,f] 0 vs=vs:=by
 unfold putL;rw [h];simp
theorem mok0 (h:1<=W/\W<=8):MOk (m00 W):=⟨by show (0:Int)<=0;omega,by show (0:Int)<=200;omega,by show (0:Nat)<=40;omega,fun i=>⟨by show (0:Nat)<=4000;omega,by show (0:Nat)<=4000;omega⟩,st_nil h⟩
theorem fin5 {tm:Array Value} (n:Int) (hc:Cl u w.heap.size 31 [.int .i64 0,.int .i64 0,.slice none 0 0,.int .i64 0,.slice none 0 0,.slice none 0 0]) (cz:Cl z w.heap.size 31 vs) (oz:OnB w.heap.size u z) (hb:Below w.heap.size w u) (hl:vs.length=6) (t4:tm.getD 4 undef=.pointer (some ⟨w.heap.size,0,none⟩)) (hI:∀ z:World,(∀ q t,OfT u q t->t≠31->z.heap[q]?=u.heap[q]?)->Rp5 w es W (.returned (.agg vs.toArray)) z):bodyPost prog f5 (fun e w'=>Rp5 w es W e w'/\Below w.heap.size w w') .ret ⟨tm,[]⟩ z:=
 bodyPost_ret (v:=.agg vs.toArray) (results_blk (P:=prog) (ty:=31) rfl tm z w.heap.size vs _ t4 cz.blk underlying31 rfl (by rw [hl];kernel_rfl)) rfl ⟨hI z (fun q t hT ht=>oz.block q (fun e=>ht (ofT_one (e▸hT) (cl_ofT hc)))),hb.trans (oz.below lr_)⟩
end
theorem c5 (a:Option Addr) (cap:Nat) (es:List ByteArray) (W:Int) (w:World) (hl:es.length<=1048576) (hs:∀ i,(es.getD i ByteArray.empty).size<=1048576) (hat:StrsAt w a es):
 Calls prog 5 #[.slice a es.length cap,.int .i64 W] w fun e w'=>Rp5 w es W e w'/\Below w.heap.size w w':=by
 have HAT:=hI_ hat;have HSZ:=hI_ hs;clear hat hs;go_enter func5,ntmps5
 go_upto_region 1 with fail
 obtain ⟨V,hV⟩:∃ V:World,V=w.alloc (.cells #[.int .i64 0,.int .i64 0,.slice none 0 0,.int .i64 0,.slice none 0 0,.slice none 0 0] 31):=⟨_,rfl⟩;rw [<- hV];have bV:Below w.heap.size w V:=by rw [hV];exact bA_
 have CR:Hid (Cl V w.heap.size 31 [.int .i64 0,.int .i64 0,.slice none 0 0,.int .i64 0,.slice none 0 0,.slice none 0 0]):=by show Cl _ _ _ _;rw [hV];exact cl_new w [.int .i64 0,.int .i64 0,.slice none 0 0,.int .i64 0,.slice none 0 0,.slice none 0 0] 31
 have hz:V.heap.size=w.heap.size+1:=by rw [hV];simp
 have HZ:=hI_ hz;clear hV hz;have HON:Hid (∀ v∈([.int .i64 1,.int .i64 0,.slice none 0 0,.int .i64 0,.slice none 0 0,.slice none 0 0]:List Value),v.oneCell'=true):=one6 rfl rfl rfl rfl rfl rfl;by_cases hw:1<=W/\W<=8;rotate_left
 · have HBD:Hid (¬ RpIn es W):=fun h=>hw h.1
   have hd:decide (1<=W/\W<=8)=false:=decide_eq_false hw
   go_wp2_with fail
   refine (c13 W V).mono ?_;rintro e V1 ⟨rfl,hv1⟩;obtain rfl:=hv1.symm;rw [hd]
   go_wp2_with (refine wl_stN rfl 31 _ _ rfl (B:=w.heap.size) (j:=0) rfl (vs:=[.int .i64 1,.int .i64 0,.slice none 0 0,.int .i64 0,.slice none 0 0,.slice none 0 0]) rfl CR.out lr_ HON.out kr_ ?_;intro z cz oz)
   exact fin5 1 CR.out cz oz bV rfl rfl (fun z _=>⟨_,rfl,.inl ⟨HBD.out,rfl⟩⟩)
 have hd:decide (1<=W/\W<=8)=true:=decide_eq_true hw
 go_wp2_with fail
 refine (c13 W V).mono ?_;rintro e V1 ⟨rfl,hv1⟩;obtain rfl:=hv1.symm;rw [hd];by_cases hbig:1000<es.length
 · have HBD:Hid (¬ RpIn es W):=fun h=>by have:=h.2;omega
   have hb1:(1000:Int)<es.length:=om_
   go_wp2_with (refine wl_stN rfl 31 _ _ rfl (B:=w.heap.size) (j:=0) rfl (vs:=[.int .i64 1,.int .i64 0,.slice none 0 0,.int .i64 0,.slice none 0 0,.slice none 0 0]) rfl CR.out lr_ HON.out kr_ ?_;intro z cz oz)
   exact fin5 1 CR.out cz oz bV rfl rfl (fun z _=>⟨_,rfl,.inl ⟨HBD.out,rfl⟩⟩)
 have hb1:¬ (1000:Int)<es.length:=om_;have HIN:Hid (RpIn es W):=⟨hw,om_⟩
 go_upto_region 4 with fail
 obtain ⟨U,hU⟩:∃ U:World,U=V.alloc (.cells #[.int .i64 0,.int .i64 0,.slice none 0 0,.int .i64 W,.slice none 0 0,.slice none 0 0] 31):=⟨_,rfl⟩;rw [<- hU];have HQ:Hid (Q5 w V.heap.size (m00 W) [.int .i64 0,.int .i64 0,.slice none 0 0,.int .i64 W,.slice none 0 0,.slice none 0 0] U):=by
  rw [hU];exact ⟨bV.alloc bV.size _,by rw [HZ.out];omega,cl_old CR.out _,cl_new V [_,_,_,_,_,_] 31,mok0 hw,_,_,_,rfl,World.ownsRow_nil _ _ _ _,stOwn_nil _ _⟩
 clear hU CR;generalize V.heap.size=B at*;clear bV HZ hd
 go_wp2_with fail
 go_loopw [6] (fun i wr=>∃ (k:Nat) (f:Nat->N10) (m:MS) (vs:List Value),i=.int .i64 k/\k<=es.length/\Hid (∀ j,j<k->RES (eL es j) (f j) true)/\Hid (rn f (m00 W) k=some m)/\Hid (Q5 w B m vs wr)) (fun i _=>es.length - (intOf i).toNat)
 case atStart=>exact ⟨0,fun _=>n10z,_,_,rfl,Nat.zero_le _,fun j h=>absurd h (Nat.not_lt_zero _),rfl,HQ⟩
 obtain ⟨k,f,m,vs,rfl,hk,HF,HR,H⟩:=hrel;clear HQ;have hsp:=H.out.sp.ex;obtain ⟨fv,tv,rv,rfl,hfo,hso⟩:=hsp;obtain ⟨fa,fc,rfl⟩:=row_sl hfo;obtain ⟨ta,tc,rfl⟩:=row_sl hso.1;obtain ⟨_,vs0,hr0⟩:=hso;obtain ⟨ra,rc,rfl⟩:=row_sl hr0.row;clear hr0 hfo;have HLD:Hid (∀ (q:Nat) (v:Value),([.int .i64 0,.int .i64 m.ep,.slice fa m.fs.length fc,.int .i64 m.s.wd,.slice ta m.s.ts.length tc,.slice ra m.s.rs.length rc]:List Value)[q]?=some v->wr.cell? ⟨B,0+q,none⟩=some v):=fun q v e=>by rw [Nat.zero_add];exact (H.out.hm.cell q).trans e
 by_cases hlt:k<es.length;rotate_left
 · obtain rfl:k=es.length:=om_
   have HON:Hid (∀ v∈([.int .i64 0,.int .i64 m.ep,.slice fa m.fs.length fc,.int .i64 m.s.wd,.slice ta m.s.ts.length tc,.slice ra m.s.rs.length rc]:List Value),v.oneCell'=true):=one6 rfl rfl rfl rfl rfl rfl
   go_wp2_with (first | (refine wl_val rfl (ex_ldN 31 _ rfl (B:=B) (j:=0) (cs:=[.int .i64 0,.int .i64 m.ep,.slice fa m.fs.length fc,.int .i64 m.s.wd,.slice ta m.s.ts.length tc,.slice ra m.s.rs.length rc]) rfl HLD.out underlying31 rfl kr_) ?_) | (refine wl_stN rfl 31 _ _ rfl (B:=w.heap.size) (j:=0) rfl (vs:=[.int .i64 0,.int .i64 m.ep,.slice fa m.fs.length fc,.int .i64 m.s.wd,.slice ta m.s.ts.length tc,.slice ra m.s.rs.length rc]) rfl H.out.hr lr_ HON.out kr_ ?_;intro z cz oz))
   exact fin5 0 H.out.hr cz oz H.out.b rfl rfl (fun z hz=>⟨_,rfl,.inr ⟨HIN.out,_,rp_all HF.out HR.out,.inr ⟨m,rfl,H.out.sp.keep hz⟩⟩⟩)
 obtain ⟨b,off,hst⟩:=strs_some (strs_below HAT.out H.out.b);rcases hst with h0 | ⟨rfl,hbw,hce⟩
 · rw [h0] at hlt;exact absurd hlt (Nat.not_lt_zero _)
 have hc0:=hce k hlt;clear hce;have HRD:=hI_ (c14 (es.getD k ByteArray.empty) wr (HSZ.out k));have HEL:Hid ((es.getD k ByteArray.empty).data.toList=eL es k):=rfl;generalize es.getD k ByteArray.empty=s at*
 go_upto_region 7 with fail
 go_wp2_with fail
 refine HRD.out.mono ?_;rintro e w1 ⟨⟨x,ok,ai,ci,rfl,hx,hxz,hxl,hlk⟩,hb1⟩;rw [HEL.out] at hx;have H1:=hI_ (H.out.below hb1);have HX:=hI_ hx;have HXZ:=hI_ hxz;have HXL:=hI_ hxl;have HLK:=hI_ hlk;clear HRD hx hxz hxl hlk H hc0 HLD;dsimp only [N10.c]
 go_upto_region 8 with fail
 obtain ⟨y,hy⟩:∃ q:World,q=w1.alloc (.cells (x.c ai ci).toArray 47):=⟨_,rfl⟩;have by1:Below w1.heap.size w1 y:=by rw [hy];exact bA_
 have CE:Hid (Cl y w1.heap.size 47 (x.c ai ci)):=by show Cl _ _ _ _;rw [hy];exact cl_new w1 _ 47
 dsimp only [N10.c] at hy;rw [<- hy];have H:=hI_ (H1.out.below by1);have HLK:=hI_ (lks_below HLK.out by1);clear hy by1 H1 hb1;generalize w1.heap.size=E at*;cases ok
 · obtain ⟨hz1,hz2,hz3⟩:=HXZ.out rfl
   have HBAD:Hid (RES (eL es k) n10z false):=hz1▸HX.out;have HON:Hid (∀ v∈([.int .i64 2,.int .i64 0,.slice none 0 0,.int .i64 0,.slice none 0 0,.slice none 0 0]:List Value),v.oneCell'=true):=one6 rfl rfl rfl rfl rfl rfl;clear hz1 hz2 hz3
   go_wp2_with (refine wl_stN rfl 31 _ _ rfl (B:=w.heap.size) (j:=0) rfl (vs:=[.int .i64 2,.int .i64 0,.slice none 0 0,.int .i64 0,.slice none 0 0,.slice none 0 0]) rfl H.out.hr lr_ HON.out kr_ ?_;intro z cz oz)
   exact fin5 2 H.out.hr cz oz H.out.b rfl rfl (fun z hz=>⟨_,rfl,.inr ⟨HIN.out,_,rp_no hlt HF.out HR.out HBAD.out,.inl ⟨rfl,rfl⟩⟩⟩)
 have HEN:=hI_ (HX.out.1 rfl).1;have HLM:Hid (∀ (q:Nat) (v:Value),([.int .i64 0,.int .i64 m.ep,.slice fa m.fs.length fc,.int .i64 m.s.wd,.slice ta m.s.ts.length tc,.slice ra m.s.rs.length rc]:List Value)[q]?=some v->y.cell? ⟨B,0+q,none⟩=some v):=fun q v e=>by rw [Nat.zero_add];exact (H.out.hm.cell q).trans e
 have HLE:Hid (∀ (q:Nat) (v:Value),(x.c ai ci)[q]?=some v->y.cell? ⟨E,0+q,none⟩=some v):=fun q v e=>by rw [Nat.zero_add];exact (CE.out.cell q).trans e
 have HC:=hI_ (c15 w.heap.size m _ x ai ci y H.out.sp H.out.b.size HEN.out HXL.out HLK.out)
 go_upto_region 10 with fail
 go_wp2_with (first | (refine wl_val rfl (ex_ldN 31 _ rfl (B:=B) (j:=0) (cs:=[.int .i64 0,.int .i64 m.ep,.slice fa m.fs.length fc,.int .i64 m.s.wd,.slice ta m.s.ts.length tc,.slice ra m.s.rs.length rc]) rfl HLM.out underlying31 rfl kr_) ?_) | (refine wl_val rfl (ex_ldN 47 _ rfl (B:=E) (j:=0) (cs:=x.c ai ci) rfl HLE.out underlying47 rfl kr_) ?_))
 refine HC.out.mono ?_;rintro e w2 ⟨⟨vs2,rfl,hl2,ho2,hS2⟩,hb2⟩;have H2:=hI_ (H.out.below hb2);have HO2:=hI_ ho2;have HS2:=hI_ hS2;have HI2:Hid ((prog.info? 31).map (·.size)=some vs2.length):=by show _=_;rw [hl2];kernel_rfl
 have HL2:Hid (0+vs2.length<=([.int .i64 0,.int .i64 m.ep,.slice fa m.fs.length fc,.int .i64 m.s.wd,.slice ta m.s.ts.length tc,.slice ra m.s.rs.length rc]:List Value).length):=by show _<=_;rw [hl2];exact Nat.le_refl _
 have HPL:Hid (putL [.int .i64 0,.int .i64 m.ep,.slice fa m.fs.length fc,.int .i64 m.s.wd,.slice ta m.s.ts.length tc,.slice ra m.s.rs.length rc] 0 vs2=vs2):=putL_all hl2;clear HC ho2 hS2 hb2 H HLM HLE CE HLK HXL
 go_upto_region 11 with (refine wl_stN rfl 31 _ _ rfl (B:=B) (j:=0) rfl (vs:=vs2) rfl H2.out.hm HL2.out HO2.out HI2.out ?_;intro z cz oz)
 rw [HPL.out] at cz;have CZ:=hI_ cz;have RZ:=hI_ (H2.out.hr.on oz (by have:=H2.out.hB;omega));have BZ:Hid (Below w.heap.size w z):=H2.out.b.trans (oz.below (Nat.le_of_lt H2.out.hB));have KZ:Hid (∀ q t,OfT w2 q t->t≠31->z.heap[q]?=w2.heap[q]?):=fun q t hT ht=>oz.block q (fun e=>ht (ofT_one (e▸hT) (cl_ofT H2.out.hm)));have hBB:=H2.out.hB;clear cz oz H2 HL2 HI2 HPL
 cases hd:dn m x with
 | none=>
  have HD:=hI_ hd;have HON:Hid (∀ v∈([.int .i64 2,.int .i64 0,.slice none 0 0,.int .i64 0,.slice none 0 0,.slice none 0 0]:List Value),v.oneCell'=true):=one6 rfl rfl rfl rfl rfl rfl;clear hd
  go_wp2_with (refine wl_stN rfl 31 _ _ rfl (B:=w.heap.size) (j:=0) rfl (vs:=[.int .i64 2,.int .i64 0,.slice none 0 0,.int .i64 0,.slice none 0 0,.slice none 0 0]) rfl RZ.out lr_ HON.out kr_ ?_;intro z2 cz2 oz2)
  exact fin5 2 RZ.out cz2 oz2 BZ.out rfl rfl (fun z hz=>⟨_,rfl,.inr ⟨HIN.out,_,rp_bad hlt HF.out HR.out HX.out HD.out,.inl ⟨rfl,rfl⟩⟩⟩)
 | some m'=>
  have HD:=hI_ hd;have HSP:=hI_ ((HS2.out m' hd).keep KZ.out);clear hd HS2 KZ;go_wp2;go_roundw
  case rel=>exact ⟨k+1,upd f k x,m',vs2,by go_num,om_,(rp_next HF.out HR.out HX.out HD.out).1,(rp_next HF.out HR.out HX.out HD.out).2,BZ.out,hBB,RZ.out,CZ.out,HSP.out⟩
  case measure=>simp [intOf];omega
end Go.Proofs.YtlckdgjfniglfaaGreatDoor
namespace Go.Proofs.YtlckdgjfniglfaaGreatDoor
open Proofs.Tryz
open Go.RowKit
section
variable {w w' u u':World} {B B' R H bT bR bP j n:Nat} {W:Int} {l pl:List (ByteArray×Value)} {rs:List R3} {rv:List Value} {v x0 x1 x2:Value} {x:R3} {a:Option Addr} {gs:List T.F2}
theorem cell_h {g:Nat} (h:w'.heap[g]?=w.heap[g]?) (j:Nat):w'.cell? ⟨g,j,none⟩=w.cell? ⟨g,j,none⟩:=by simp only [World.cell?,h]
theorem froz_h {g:Nat} (h:w'.heap[g]?=w.heap[g]?) (j:Nat):w'.frozen? ⟨g,j,none⟩=w.frozen? ⟨g,j,none⟩:=by simp only [World.frozen?,h]
theorem newF_h (h:T.NewF B w a gs) (hs:w.heap.size<=w'.heap.size) (hk:∀ q,OfT w q 40->w'.heap[q]?=w.heap[q]?) (hB:B'<=B):T.NewF B' w' a gs:=by
 obtain ⟨hf,h⟩:=h;rcases h with rfl | ⟨g,rfl,hg,ho,ht⟩
 · exact ⟨.inl rfl,.inl rfl⟩
 have e:=hk g ht;refine ⟨?_,.inr ⟨g,rfl,om_,⟨Nat.lt_of_lt_of_le ho.1 hs,fun j hj=>by rw [cell_h e];exact ho.2.1 j hj,fun j=>by rw [froz_h e];exact ho.2.2 j⟩,?_⟩⟩
 · rcases hf with h0 | ⟨b,off,h1,h2,h3⟩
   · exact .inl h0
   injection h1 with h1;injection h1 with h1 h4;subst h1 h4;exact .inr ⟨g,0,rfl,Nat.lt_of_lt_of_le h2 hs,fun i hi=>by rw [cell_h e,cell_h e];exact h3 i hi⟩
 obtain ⟨cur,fr,hc⟩:=ht;exact ⟨cur,fr,e.trans hc⟩
theorem gb_set (w:World) (R j:Nat) (v:Value):w.grownBy (w.setCell ⟨R,j,none⟩ v) (some R):=
 have o:=on_set w R j v
 ⟨o.os,o.tape,o.output,Nat.le_of_eq o.size.symm,fun k _ h=>o.block k (fun e=>h (by rw [e]))⟩
theorem recV_setR (h:RecV B w v x) (hR:Cl w R 55 [.int .i64 W,.slice a n j,.pointer (some ⟨H,0,none⟩)]) (i:Nat) (y:Value):RecV B (w.setCell ⟨R,i,none⟩ y) v x:=by
 obtain ⟨a,c,hv,hG,hS⟩:=h;have o:=on_set w R i y;rcases hG with h0 | ⟨b,off,ha,hb,hc⟩
 · exact ⟨a,c,hv,.inl h0,.inl h0⟩
 by_cases hl:x.gs=[]
 · exact ⟨a,c,hv,.inl hl,.inl hl⟩
 have hbR:b≠R:=fun e=>by
  subst e;have h0:=(hc 0 (List.length_pos_iff.2 hl)).1;rw [hR.cell] at h0;rcases (by omega:off+0*3=0\/off+0*3=1\/off+0*3=2\/3<=off+0*3) with e | e | e | e
  · rw [e] at h0;cases h0
  · rw [e] at h0;cases h0
  · rw [e] at h0;cases h0
  rw [List.getElem?_eq_none (by simpa using e)] at h0;cases h0
 have e:=o.block b hbR;refine ⟨a,c,hv,.inr ⟨b,off,ha,by rw [o.size];exact hb,fun q hq=>by rw [cell_h e,cell_h e,cell_h e];exact hc q hq⟩,hS.imp id ?_⟩;rintro ⟨b',off',ha',h⟩;obtain ⟨rfl,rfl⟩:b'=b/\off'=off:=by rw [ha] at ha';injection ha' with ha';injection ha' with h1 h2;exact ⟨h1.symm,h2.symm⟩
 exact ⟨b',off',ha',h.imp id (fun ⟨cur,fr,hc⟩=>⟨cur,fr,e.trans hc⟩)⟩
theorem Sh.setR (h:Sh B H bT bR bP W l rs rv w) {ep:Int} {p:Nat} (hR:Cl w R 55 [.int .i64 ep,.slice a n j,.pointer (some ⟨p,0,none⟩)]) (i:Nat) (y:Value):Sh B H bT bR bP W l rs rv (w.setCell ⟨R,i,none⟩ y):=by
 obtain ⟨pl,hC,hr⟩:=h;have g:=gb_set w R i y;have hm:∀ {k:TypeId} {F:Value->Option (DataW Value×List MemPlace)} {b n:Nat} {Dd:DataW Value},w.ownsMap prog k F b n Dd->some b≠some R:=fun h e=>by
  obtain ⟨es,ck,hh⟩:=mp_isMap h;obtain rfl:=Option.some.inj e;unfold Cl at hR;rw [hR] at hh;cases hh
 refine ⟨pl,hC.kept g (fun e=>absurd (ofT_one hC.ty (Option.some.inj e▸cl_ofT hR)) dc_) (hm hC.tx) (hm hC.rc) (hm hC.pc),hr.len,fun i hi=>recV_setR (hr.recs i hi) hR _ _,fun k v e=>(hr.grp k v e).kept g ?_,hr.non,hr.apart,hr.pln⟩
 cases hq:v.ownBlock with
 | none=>exact .inl rfl
 | some q=>
  refine .inr (fun e'=>?_);obtain ⟨_,_,cur,hc⟩:=ints_row (hr.grp k v e) hq;obtain rfl:=Option.some.inj e';exact absurd (ofT_one ⟨_,_,hc⟩ (cl_ofT hR)) dc_
theorem Sh.below' (h:Sh B H bT bR bP W l rs rv w) (hb:Below w.heap.size w w'):Sh B H bT bR bP W l rs rv w':=by
 obtain ⟨pl,hC,hr⟩:=h;exact ⟨pl,hC.below hb,hr.below hb⟩
end
structure ImX (b0 R:Nat) (m:MS) (fa:Option Addr) (fc H B bT bR bP:Nat) (rv:List Value) (u:World):Prop where
 ok:MOk m
 cr:Cl u R 55 [.int .i64 m.ep,.slice fa m.fs.length fc,.pointer (some ⟨H,0,none⟩)]
 nf:T.NewF b0 u fa m.fs
 sh:Sh B H bT bR bP m.s.wd (m.s.ts.map (gT m.s.wd)) m.s.rs rv u
 hB:b0<=B
 hR:b0<=R
def ImM (b0 R:Nat) (m:MS) (u:World):Prop:=∃ fa fc H B bT bR bP rv,ImX b0 R m fa fc H B bT bR bP rv u
theorem ImX.below {b0 R fc H B bT bR bP:Nat} {m:MS} {fa:Option Addr} {rv:List Value} {u u':World} (h:ImX b0 R m fa fc H B bT bR bP rv u) (hb:Below u.heap.size u u'):ImX b0 R m fa fc H B bT bR bP rv u':=
 ⟨h.ok,h.cr.below hb h.cr.lt,newF_h h.nf hb.size (fun q hq=>hb.block q (ofT_lt hq)) lr_,h.sh.below' hb,h.hB,h.hR⟩
def Is19 (w:World) (b0 R:Nat) (m:MS) (x:N10) (e:Ending) (w':World):Prop:=e=.returned (.bool (dn m x).isSome)/\(∀ m',dn m x=some m'->ImM b0 R m' w')
end Go.Proofs.YtlckdgjfniglfaaGreatDoor
