import Derived.Test.YtlckdgjfniglfaaGreatDoorK4
import Derived.Test.YtlckdgjfniglfaaGreatDoorQP3
import Derived.Maps.OwnRows
import Derived.Shelf.Strings.Split
import Derived.Shelf.Small.Strs
set_option linter.unusedVariables false
set_option maxRecDepth 100000
namespace Go.Proofs.YtlckdgjfniglfaaGreatDoor
open Go.RowKit Go.Maps
def fmR (c:Int) (t:ByteArray):ByteArray:=ofL (formR c t.data.toList)
def hC (t:ByteArray):Int:=((t.data.toList.headD 0).toNat:Int) - 48
def hT (t:ByteArray):ByteArray:=ofL (t.data.toList.drop 2)
def hV (t:ByteArray):Value:=.agg #[.string t,.int .i64 (hC t),.string (hT t)]
def gT (W:Int) (t:ByteArray):ByteArray×Value:=(sumS t W,hV t)
theorem hV_inj {a b:ByteArray} (h:hV a=hV b):a=b:=by
 unfold hV at h;simp at h;exact h.1
theorem ofL_list (l:List UInt8):(ofL l).data.toList=l:=by simp [ofL]
theorem hV_read {l:List UInt8} {c:Int} {u:List UInt8} (h:IsR l c u true):hC (ofL l)=c/\hT (ofL l)=ofL u:=by
 obtain ⟨hv,rfl⟩:=h.1 rfl;have:=vr_code hv;unfold hC hT;rw [ofL_list];refine ⟨?_,rfl⟩;simp only [List.headD_cons,UInt8.toNat_ofNat'];omega
theorem fm_read {c:Int} {t:ByteArray} (h:vr c t.data.toList=true):IsR (fmR c t).data.toList c t.data.toList true:=by
 refine ⟨fun _=>⟨h,?_⟩,(fun h=>by cases h)⟩;unfold fmR;rw [ofL_list];unfold formR;rw [if_pos h]
theorem hV_fm {c:Int} {t:ByteArray} (h:vr c t.data.toList=true):hV (fmR c t)=.agg #[.string (fmR c t),.int .i64 c,.string t]:=by
 obtain ⟨h1,h2⟩:=hV_read (fm_read h);rw [ofL_self] at h1 h2;unfold hV;rw [h1,h2,ofL_self]
def insT (W:Int) (t:ByteArray):List ByteArray->List ByteArray
 | []=>[t]
 | y::r=>if bef (sumS t W) (sumS y W) then t::y::r else y::insT W t r
theorem insT_map (W:Int) (t:ByteArray) (ts:List ByteArray):(insT W t ts).map (gT W)=insK (gT W t) (ts.map (gT W)):=by
 induction ts with
 | nil=>rfl
 | cons y r ih=>
  unfold insT;show _=if bef (sumS t W) (sumS y W)=true then _ else _;split
  · rfl
  · simp [ih]
def putT (W:Int) (t:ByteArray) (ts:List ByteArray):List ByteArray×Bool:=
 match ts.find? (fun y=>decide (sumS y W=sumS t W)) with
 | some y=>(ts,decide (y=t))
 | none=>(insT W t ts,true)
def putAll (W:Int):List ByteArray->List ByteArray×Bool->List ByteArray×Bool
 | [],s=>s
 | t::r,s=>putAll W r ((putT W t s.1).1,s.2&&(putT W t s.1).2)
theorem putAll_app (W:Int) (a b:List ByteArray) (s:List ByteArray×Bool):putAll W (a++b) s=putAll W b (putAll W a s):=by
 induction a generalizing s with
 | nil=>rfl
 | cons t r ih=>exact ih _
theorem putAll_no (W:Int) (a:List ByteArray) (ts:List ByteArray):(putAll W a (ts,false)).2=false:=by
 induction a generalizing ts with
 | nil=>rfl
 | cons t r ih=>exact ih _
def AscT (W:Int) (ts:List ByteArray):Prop:=Asc (ts.map (gT W))
theorem find_sum {W:Int} {t y:ByteArray} {ts:List ByteArray} (hA:AscT W ts) (hy:y∈ts) (hs:sumS y W=sumS t W):ts.find? (fun y=>decide (sumS y W=sumS t W))=some y:=by
 cases hq:ts.find? (fun y=>decide (sumS y W=sumS t W)) with
 | none=>exact absurd (by simpa using hs) (List.find?_eq_none.1 hq y hy)
 | some z=>
  have h1:=List.mem_of_find?_eq_some hq;have h2:sumS z W=sumS t W:=by simpa using List.find?_some hq
  have e1:=getK_asc hA (List.mem_map_of_mem (f:=gT W) hy);have e2:=getK_asc hA (List.mem_map_of_mem (f:=gT W) h1);have e3:getK (ts.map (gT W)) (sumS y W)=some (hV y):=e1;have e4:getK (ts.map (gT W)) (sumS z W)=some (hV z):=e2;rw [hs] at e3;rw [h2,e3] at e4;rw [hV_inj (Option.some.inj e4)]
theorem find_no {W:Int} {t:ByteArray} {ts:List ByteArray}:ts.find? (fun y=>decide (sumS y W=sumS t W))=none↔getK (ts.map (gT W)) (sumS t W)=none:=by
 rw [getK_none,List.find?_eq_none];constructor
 · intro h p hp
   obtain ⟨y,hy,rfl⟩:=List.mem_map.1 hp;simpa [gT] using h y hy
 · intro h y hy
   simpa [gT] using h _ (List.mem_map_of_mem (f:=gT W) hy)
theorem putT_asc {W:Int} {t:ByteArray} {ts:List ByteArray} (hA:AscT W ts):AscT W (putT W t ts).1:=by
 unfold putT
 cases hq:ts.find? (fun y=>decide (sumS y W=sumS t W)) with
 | some y=>exact hA
 | none=>
  show Asc ((insT W t ts).map (gT W));rw [insT_map];exact insK_asc hA (fun p hp=>getK_none.1 (find_no.1 hq) p hp)
theorem putAll_asc {W:Int} {a ts:List ByteArray} {b:Bool} (hA:AscT W ts):AscT W (putAll W a (ts,b)).1:=by
 induction a generalizing ts b with
 | nil=>exact hA
 | cons t r ih=>exact ih (putT_asc hA)
structure Fr (W:Int) (l f:List (ByteArray×Value)) (ts:List ByteArray):Prop where
 asc:AscT W ts
 perm:(ts.map (gT W)).Perm (f++l)
 la:Asc l
 fa:Asc f
 dis:∀ p∈f,getK l p.1=none
theorem Fr.start {W:Int} {ts:List ByteArray} (h:AscT W ts):Fr W (ts.map (gT W)) [] ts:=⟨h,List.Perm.refl _,h,List.Pairwise.nil,sm_⟩
theorem Fr.met {W:Int} {l f:List (ByteArray×Value)} {ts:List ByteArray} (h:Fr W l f ts) {t:ByteArray} {v:Value} (hv:getK l (sumS t W)=some v\/getK f (sumS t W)=some v):∃ y,v=hV y/\putT W t ts=(ts,decide (y=t)):=by
 have hm:(sumS t W,v)∈ts.map (gT W):=h.perm.mem_iff.2 (by
  rcases hv with hv | hv
  · exact List.mem_append_right _ (getK_mem hv)
  · exact List.mem_append_left _ (getK_mem hv))
 obtain ⟨y,hy,e⟩:=List.mem_map.1 hm;have e1:sumS y W=sumS t W:=congrArg Prod.fst e;have e2:hV y=v:=congrArg Prod.snd e;refine ⟨y,e2.symm,?_⟩;unfold putT;rw [find_sum h.asc hy e1]
theorem Fr.add {W:Int} {l f:List (ByteArray×Value)} {ts:List ByteArray} (h:Fr W l f ts) {t:ByteArray} (h1:getK l (sumS t W)=none) (h2:getK f (sumS t W)=none):putT W t ts=(insT W t ts,true)/\Fr W l (insK (gT W t) f) (insT W t ts):=by
 have hn:getK (ts.map (gT W)) (sumS t W)=none:=getK_none.2 (fun p hp=>by
  rcases List.mem_append.1 (h.perm.mem_iff.1 hp) with hp | hp
  · exact getK_none.1 h2 p hp
  · exact getK_none.1 h1 p hp)
 have e:putT W t ts=(insT W t ts,true):=by unfold putT;rw [find_no.2 hn]
 refine ⟨e,?_,?_,h.la,insK_asc h.fa (fun p hp=>getK_none.1 h2 p hp),fun p hp=>?_⟩
 · have:=putT_asc (t:=t) h.asc
   rw [e] at this;exact this
 · rw [insT_map]
   exact (insK_perm _ _).trans ((h.perm.cons _).trans ((insK_perm (gT W t) f).symm.append_right l))
 · rcases List.mem_cons.1 ((insK_perm _ _).mem_iff.1 hp) with rfl | hp
   · exact h1
   · exact h.dis p hp
theorem Fr.done {W:Int} {l f:List (ByteArray×Value)} {ts:List ByteArray} (h:Fr W l f ts):Lib.mergeD (mapD l) (mapD f)=mapD (ts.map (gT W))/\l.length+f.length=ts.length:=by
 obtain ⟨m1,m2,m3⟩:=mapD_merge f l h.fa h.la h.dis;refine ⟨?_,?_⟩
 · rw [m3,asc_eq m1 h.asc (m2.trans h.perm.symm)]
 · have:=h.perm.length_eq
   simp at this;omega
def fmL (ls:List L4) (c:Int) (t:ByteArray):List ByteArray:=(askR ls++[(c,t)]).map fun r=>fmR r.1 r.2
def recG (W:Int) (x:L4):G3:=⟨x.has,x.nm,sumS (glT x) W⟩
def recR (W:Int) (m:M3) (ls:List L4) (c:Int) (t:ByteArray):R3:=⟨keyR m,ls.map (recG W),sumS (fmR c t) W⟩
def st0:St:=⟨0,[],[]⟩
open Classical in
noncomputable def putR (rs:List R3) (x:R3):List R3:=if x∈rs then rs else rs++[x]
open Classical in
noncomputable def keepF (s:St) (m:M3) (ls:List L4) (c:Int) (t:ByteArray):St×Int:=
 if ¬ StOk s then (st0,1) else if ¬ RanOk m ls c t then (st0,2) else
 if (putAll s.wd (fmL ls c t) (s.ts,true)).2=false then (st0,3) else
 if 300<(putAll s.wd (fmL ls c t) (s.ts,true)).1.length\/150<(putR s.rs (recR s.wd m ls c t)).length then (st0,4) else
 (⟨s.wd,(putAll s.wd (fmL ls c t) (s.ts,true)).1,putR s.rs (recR s.wd m ls c t)⟩,0)
theorem bl_eq:∀ (a b:List UInt8),Op.bytesLess a b=bytesBefore a b
 | [],[]=>by simp [Op.bytesLess,bytesBefore]
 | [],_::_=>by simp [Op.bytesLess,bytesBefore]
 | _::_,[]=>by simp [Op.bytesLess,bytesBefore]
 | x::r,y::s=>by
  have:=bl_eq r s;simp only [Op.bytesLess,bytesBefore];rw [this]
theorem asc_of_ok {s:St} (h:StOk s):AscT s.wd s.ts:=by
 obtain ⟨_,⟨_,h2⟩,_⟩:=h;have key:∀ (ts:List ByteArray),(∀ k,k<ts.length->k=0\/bef (sumS (ts.getD (k - 1) ByteArray.empty) s.wd) (sumS (ts.getD k ByteArray.empty) s.wd)=true)->AscT s.wd ts:=by
  intro ts
  induction ts with
  | nil=>intro _;exact List.Pairwise.nil
  | cons y r ih=>
   intro h;have hr:AscT s.wd r:=ih (fun k hk=>by
    by_cases h0:k=0
    · exact .inl h0
    · refine .inr ?_
      have:=(h (k+1) so_).resolve_left om_;simp only [Nat.add_sub_cancel] at this;have e1:(y::r).getD (k+1) ByteArray.empty=r.getD k ByteArray.empty:=rfl;have e2:(y::r).getD k ByteArray.empty=r.getD (k - 1) ByteArray.empty:=by
       obtain ⟨j,rfl⟩:∃ j,k=j+1:=⟨k - 1,om_⟩;rfl
      rw [e1,e2] at this;exact this)
   refine List.pairwise_cons.2 ⟨fun p hp=>?_,hr⟩
   cases r with
   | nil=>cases hp
   | cons z q=>
    have h1:=(h 1 sm_).resolve_left om_;have h1':bef (sumS y s.wd) (sumS z s.wd)=true:=h1;rcases List.mem_cons.1 hp with rfl | hp
    · exact h1'
    · exact bef_tr h1' ((List.pairwise_cons.1 hr).1 p hp)
 refine key s.ts fun k hk=>?_;rcases (h2 k hk).2 with h0 | h0
 · exact .inl h0
 · refine .inr ?_
   rw [bl_eq] at h0;unfold bef;rw [<- ByteArray.toList_eq,<- ByteArray.toList_eq];exact h0
open Proofs.Tryz
theorem lawS:Keyed prog 9:=string_keyed underlying9
theorem lawI:Keyed prog 3:=int_keyed underlying3
theorem keyS {k:ByteArray} (h:k.size<=maxLen):keyOf prog 9 (.string k)=some (kS k):=Go.WideMaps.keyOf_string_mk underlying9 h
theorem keyI {i:Nat} (h:i<=1048576):keyOf prog 3 (.int .i64 i)=some (.int .i64 i):=keyOf_int_mk underlying3 (WalkArith.wf_i64 om_)
theorem mp_tight {w:World} {k:TypeId} {R:Value->Option (DataW Value×List MemPlace)} {b n:Nat} {D:DataW Value} (h:w.ownsMap prog k R b n D):w.ownsMap prog k R b (size D) D:=by
 obtain ⟨es,clock,hb,F,hs,hD⟩:=h;refine ⟨es,clock,hb,F,?_,hD⟩;rw [hD,size_eq,length_sorted];simp
theorem mp_below {w w':World} {k:TypeId} {R:Value->Option (DataW Value×List MemPlace)} {b n N:Nat} {D:DataW Value} (h:w.ownsMap prog k R b n D) (hb:Below N w w') (hN:b<N):w'.ownsMap prog k R b n D:=by
 obtain ⟨es,clock,hh,r⟩:=h;exact ⟨es,clock,(hb.block b hN).trans hh,r⟩
theorem mp_isMap {w:World} {k:TypeId} {R:Value->Option (DataW Value×List MemPlace)} {b n:Nat} {D:DataW Value} (h:w.ownsMap prog k R b n D):∃ es clock,w.heap[b]?=some (.map es clock):=by
 obtain ⟨es,clock,hh,r⟩:=h;exact ⟨es,clock,hh⟩
theorem tok_inv {v:Value} {d:DataW Value} {ps:List MemPlace} (h:tokR v=some (d,ps)):d=.held v:=by
 unfold tokR at h;simp only [Option.some.injEq,Prod.mk.injEq] at h;exact h.1.symm
theorem look_ok_S {w:World} {b n:Nat} {l:List (ByteArray×Value)} {t e:TypeId} {z:Value} {k:ByteArray} (h:w.ownsMap prog 9 tokR b n (mapD l)) (ht:prog.underlying t=some (.map 9 e)) (hz:(zeroValue e).run prog w=.ok z w) (hk:k.size<=maxLen):
 (Instr.lookup t (.map (some b)) (.string k) true).run prog w=.ok (.tuple #[(getK l k).getD z,.bool (getK l k).isSome]) w:=by
 obtain ⟨v,ps,hr,hv⟩:=h.look_ok lawS ht hz (zd:=.held z) (zp:=[]) rfl (keyS hk);have hd:=tok_inv hv;rw [mapD_at] at hd;rw [mapD_has] at hr;rw [hr]
 cases hg:getK l k with
 | none=>rw [hg] at hd;simp at hd;rw [hd];rfl
 | some u=>rw [hg] at hd;simp at hd;rw [hd];rfl
theorem look_S {w:World} {b n:Nat} {l:List (ByteArray×Value)} {t e:TypeId} {z:Value} {k:ByteArray} (h:w.ownsMap prog 9 tokR b n (mapD l)) (ht:prog.underlying t=some (.map 9 e)) (hz:(zeroValue e).run prog w=.ok z w) (hk:k.size<=maxLen):
 (Instr.lookup t (.map (some b)) (.string k) false).run prog w=.ok ((getK l k).getD z) w:=by
 obtain ⟨v,ps,hr,hv⟩:=h.lookup lawS ht hz (zd:=.held z) (zp:=[]) rfl (keyS hk);have hd:=tok_inv hv;rw [mapD_at] at hd;rw [hr]
 cases hg:getK l k with
 | none=>rw [hg] at hd;simp at hd;rw [hd];rfl
 | some u=>rw [hg] at hd;simp at hd;rw [hd];rfl
theorem look_I {w:World} {b n:Nat} {vs:List Value} {t e:TypeId} {z:Value} {k:Nat} (h:w.ownsMap prog 3 tokR b n (intD vs)) (ht:prog.underlying t=some (.map 3 e)) (hz:(zeroValue e).run prog w=.ok z w) (hk:k<=1048576) (hlt:k<vs.length):
 (Instr.lookup t (.map (some b)) (.int .i64 k) false).run prog w=.ok (vs.getD k undef) w:=by
 obtain ⟨v,ps,hr,hv⟩:=h.lookup lawI ht hz (zd:=.held z) (zp:=[]) rfl (keyI hk);have hd:=tok_inv hv;rw [intD_at,if_pos hlt] at hd;simp at hd;rw [hr,List.getD_eq_getElem?_getD,hd]
theorem up_S {w:World} {b n:Nat} {l:List (ByteArray×Value)} {t e:TypeId} {v:Value} {k:ByteArray} (h:w.ownsMap prog 9 tokR b n (mapD l)) (ht:prog.underlying t=some (.map 9 e)) (hn:n<maxLen) (hk:k.size<=maxLen):
 ∃ w',(Instr.mapUpdate t (.map (some b)) (.string k) v).run prog w=.ok () w'/\w'.ownsMap prog 9 tokR b (n+1) ((mapD l).put (kS k) (.held v))/\w.grownBy w' (some b):=
 h.update lawS ht hn (keyS hk) (d:=.held v) (ps:=[]) rfl
theorem up_I {w:World} {b n:Nat} {vs:List Value} {t e:TypeId} {v:Value} (h:w.ownsMap prog 3 tokR b n (intD vs)) (ht:prog.underlying t=some (.map 3 e)) (hn:n<maxLen) (hk:vs.length<=1048576):
 ∃ w',(Instr.mapUpdate t (.map (some b)) (.int .i64 vs.length) v).run prog w=.ok () w'/\w'.ownsMap prog 3 tokR b (vs++[v]).length (intD (vs++[v]))/\w.grownBy w' (some b):=by
 obtain ⟨w',h1,h2,h3⟩:=h.update lawI ht hn (keyI hk) (d:=.held v) (ps:=[]) rfl;rw [intD_put] at h2;have h4:=mp_tight h2;rw [intD_size] at h4;exact ⟨w',h1,h4,h3⟩
theorem step_upI {ops:Array Oper} {o:Oper} {a:Act} {w:World} {K:Act->World->Prop} {Q:Exit->Act->World->Prop} {E:Prop} (hg:o.guard=none) (t:TypeId) (m x v:Operand) (ho:o.op=Op.mapUpdate t m x v) {b n:Nat} {vs:List Value} {e:TypeId} {vv:Value}
 (hm:a.eval m=.map (some b)) (hx:a.eval x=.int .i64 vs.length) (hv:a.eval v=vv) (h:w.ownsMap prog 3 tokR b n (intD vs)) (ht:prog.underlying t=some (.map 3 e)) (hn:n<maxLen) (hk:vs.length<=1048576) (hdst:o.dst=none)
 (hK:∀ w',w'.ownsMap prog 3 tokR b (vs++[vv]).length (intD (vs++[vv]))->w.grownBy w' (some b)->K a w'):
 if Region.wanted o (yielded ops a.tmps)=true then Oper.wp prog o a w K Q else E:=by
 have hw:Region.wanted o (yielded ops a.tmps)=true:=by simp [Region.wanted,hg]
 rw [if_pos hw];obtain ⟨w',hr,h1,h2⟩:=up_I (v:=vv) h ht hn hk;have h3:=hK w' h1 h2;unfold Oper.wp;simp [execOp,ho,hm,hx,hv,hr,Result.andThen]
 first
  | exact h3
  | (simp only [Oper.upon];exact h3)
  | (simp only [Oper.upon,hdst];exact h3)
  | (simp only [Act.put,hdst];exact h3)
theorem step_upS {ops:Array Oper} {o:Oper} {a:Act} {w:World} {K:Act->World->Prop} {Q:Exit->Act->World->Prop} {E:Prop} (hg:o.guard=none) (t:TypeId) (m x v:Operand) (ho:o.op=Op.mapUpdate t m x v) {b n:Nat} {l:List (ByteArray×Value)} {k:ByteArray} {e:TypeId} {vv:Value}
 (hm:a.eval m=.map (some b)) (hx:a.eval x=.string k) (hv:a.eval v=vv) (h:w.ownsMap prog 9 tokR b n (mapD l)) (ht:prog.underlying t=some (.map 9 e)) (hn:n<maxLen) (hk:k.size<=maxLen) (hdst:o.dst=none)
 (hK:∀ w',w'.ownsMap prog 9 tokR b (n+1) ((mapD l).put (kS k) (.held vv))->w.grownBy w' (some b)->K a w'):
 if Region.wanted o (yielded ops a.tmps)=true then Oper.wp prog o a w K Q else E:=by
 have hw:Region.wanted o (yielded ops a.tmps)=true:=by simp [Region.wanted,hg]
 rw [if_pos hw];obtain ⟨w',hr,h1,h2⟩:=up_S (v:=vv) h ht hn hk;have h3:=hK w' h1 h2;unfold Oper.wp;simp [execOp,ho,hm,hx,hv,hr,Result.andThen]
 first
  | exact h3
  | (simp only [Oper.upon];exact h3)
  | (simp only [Oper.upon,hdst];exact h3)
  | (simp only [Act.put,hdst];exact h3)
def RecV (B:Nat) (w:World) (v:Value) (x:R3):Prop:=∃ a c,v=.agg #[.string x.key,.slice a x.gs.length c,.string x.out]/\GlsAt w a x.gs/\(x.gs=[]\/∃ b off,a=some ⟨b,off,none⟩/\(b<B\/∃ cur fr,w.heap[b]?=some (.cells cur 119 fr)))
def NoRow (B:Nat) (w:World) (row:Option Nat):Prop:=∀ j,row=some j->B<=j/\∀ cur fr,w.heap[j]?≠some (.cells cur 119 fr)
theorem RecV.kept {B:Nat} {w w':World} {v:Value} {x:R3} {row:Option Nat} (h:RecV B w v x) (hg:w.grownBy w' row) (hr:NoRow B w row):RecV B w' v x:=by
 obtain ⟨a,c,hv,hG,hS⟩:=h;rcases hS with hn | ⟨b,off,ha,hb⟩
 · exact ⟨a,c,hv,.inl hn,.inl hn⟩
 · rcases hG with hn | ⟨b',off',ha',hlt,hc⟩
   · exact ⟨a,c,hv,.inl hn,.inl hn⟩
   · obtain ⟨rfl,rfl⟩:b'=b/\off'=off:=by rw [ha] at ha';simp at ha';exact ⟨ha'.1.symm,ha'.2.symm⟩
     have hne:some b'≠row:=fun e=>by
      have:=hr b' e.symm;rcases hb with hb | ⟨cur,fr,hb⟩
      · omega
      · exact this.2 cur fr hb
     have hbl:=hg.block b' hlt hne;refine ⟨a,c,hv,.inr ⟨b',off',ha,Nat.lt_of_lt_of_le hlt hg.size,fun i hi=>?_⟩,.inr ⟨b',off',ha,?_⟩⟩
     · obtain ⟨h0,h1,h2⟩:=hc i hi
       refine ⟨?_,?_,?_⟩
       · rw [<- h0];simp only [World.cell?,hbl]
       · rw [<- h1];simp only [World.cell?,hbl]
       · rw [<- h2];simp only [World.cell?,hbl]
     · rcases hb with hb | ⟨cur,fr,hb⟩
       · exact .inl hb
       · exact .inr ⟨cur,fr,hbl.trans hb⟩
def plc (rs:List R3) (k:ByteArray):List Int:=((List.range rs.length).filter fun i=>decide ((rs.getD i r3z).key=k)).map fun i:Nat=>(i:Int)
theorem plc_snoc (rs:List R3) (x:R3) (k:ByteArray):plc (rs++[x]) k=plc rs k++if x.key=k then [(rs.length:Int)] else []:=by
 unfold plc;rw [List.length_append,List.length_singleton,List.range_succ,List.filter_append,List.map_append]
 congr 1
 · congr 1
   apply List.filter_congr;intro i hi;have:=List.mem_range.1 hi;have e:(rs++[x]).getD i r3z=rs.getD i r3z:=by simp [List.getD,List.getElem?_append_left this]
   rw [e]
 · by_cases h:x.key=k <;> simp [List.getD,h]
theorem plc_len (rs:List R3) (k:ByteArray):(plc rs k).length<=rs.length:=by
 unfold plc;rw [List.length_map];exact Nat.le_trans (List.length_filter_le _ _) sm_
def OfT (w:World) (b:Nat) (t:TypeId):Prop:=∃ cur fr,w.heap[b]?=some (.cells cur t fr)
theorem OfT.below {w w':World} {b N:Nat} {t:TypeId} (h:OfT w b t) (hb:Below N w w') (hN:b<N):OfT w' b t:=by
 obtain ⟨cur,fr,h⟩:=h;exact ⟨cur,fr,(hb.block b hN).trans h⟩
theorem OfT.kept {w w':World} {b:Nat} {t:TypeId} {row:Option Nat} (h:OfT w b t) (hg:w.grownBy w' row) (hne:some b≠row):OfT w' b t:=by
 obtain ⟨cur,fr,h⟩:=h;exact ⟨cur,fr,(hg.block b (Array.getElem?_eq_some_iff.1 h).1 hne).trans h⟩
theorem ofT_new (w:World) (a:Array Value) (t:TypeId):OfT (w.alloc (.cells a t)) w.heap.size t:=⟨a,(0,0),(MapKept.heap_alloc w _).1⟩
structure ShC (B H bT bR bP:Nat) (W:Int) (l:List (ByteArray×Value)) (rv:List Value) (pl:List (ByteArray×Value)) (w:World):Prop where
 hH:B<=H
 hT:B<=bT
 hR:B<=bR
 hP:B<=bP
 lt:H<w.heap.size
 n1:bT≠bR
 n2:bT≠bP
 n3:bR≠bP
 blk:BlkAt w H [.int .i64 W,.map (some bT),.map (some bR),.map (some bP)]
 tx:w.ownsMap prog 9 tokR bT l.length (mapD l)
 ta:Asc l
 rc:w.ownsMap prog 3 tokR bR rv.length (intD rv)
 pc:w.ownsMap prog 9 tokR bP pl.length (mapD pl)
 pa:Asc pl
 ty:OfT w H 88
structure ShR (B:Nat) (rs:List R3) (rv:List Value) (pl:List (ByteArray×Value)) (w:World):Prop where
 len:rv.length=rs.length
 recs:∀ i,i<rs.length->RecV B w (rv.getD i undef) (rs.getD i r3z)
 grp:∀ k v,getK pl k=some v->w.ownsInts B 3 .i64 v (plc rs k)
 non:∀ k,getK pl k=none->plc rs k=[]
 apart:∀ k k' v v',k≠k'->getK pl k=some v->getK pl k'=some v'->v.ownBlock=none\/v.ownBlock≠v'.ownBlock
 pln:pl.length<=rs.length
theorem cells_ne_map {w:World} {H b:Nat} {v:Value} (h:w.cell? ⟨H,0,none⟩=some v) {es:Array MapEntry} {c:Nat} (hm:w.heap[b]?=some (.map es c)):H≠b:=fun e=>by
 subst e;simp [World.cell?,hm] at h
theorem gb_below {w w':World} {row:Option Nat} {N:Nat} (hg:w.grownBy w' row) (hr:∀ j,row=some j->N<=j) (hN:N<=w.heap.size):Below N w w':=
 ⟨hg.os,hg.tape,hg.output,hg.size,fun k hk=>hg.block k om_ (fun e=>by have:=hr k e.symm;omega)⟩
theorem below_gb {w w':World} (h:Below w.heap.size w w'):w.grownBy w' none:=⟨h.os,h.tape,h.output,h.size,fun k hk _=>h.block k hk⟩
theorem blk_kept {w w':World} {H:Nat} {vs:List Value} {row:Option Nat} (h:BlkAt w H vs) (hg:w.grownBy w' row) (hlt:H<w.heap.size) (hne:some H≠row):BlkAt w' H vs:=fun j v e=>by
 have:=h j v e;simp only [World.cell?,hg.block H hlt hne];simpa only [World.cell?] using this
theorem ShC.kept {B H bT bR bP:Nat} {W:Int} {l pl:List (ByteArray×Value)} {rv:List Value} {w w':World} {row:Option Nat} (h:ShC B H bT bR bP W l rv pl w) (hg:w.grownBy w' row) (a1:some H≠row) (a2:some bT≠row) (a3:some bR≠row) (a4:some bP≠row):ShC B H bT bR bP W l rv pl w':=
 ⟨h.hH,h.hT,h.hR,h.hP,Nat.lt_of_lt_of_le h.lt hg.size,h.n1,h.n2,h.n3,blk_kept h.blk hg h.lt a1,h.tx.kept hg a2,h.ta,h.rc.kept hg a3,h.pc.kept hg a4,h.pa,h.ty.kept hg a1⟩
theorem ShR.kept {B:Nat} {rs:List R3} {rv:List Value} {pl:List (ByteArray×Value)} {w w':World} {row:Option Nat} (h:ShR B rs rv pl w) (hg:w.grownBy w' row) (hr:NoRow B w row) (hi:∀ k v,getK pl k=some v->v.ownBlock=none\/v.ownBlock≠row):ShR B rs rv pl w':=
 ⟨h.len,fun i hl=>(h.recs i hl).kept hg hr,fun k v e=>(h.grp k v e).kept hg (hi k v e),h.non,h.apart,h.pln⟩
theorem ints_row {w:World} {B:Nat} {v:Value} {zs:List Int} (h:w.ownsInts B 3 .i64 v zs) {j:Nat} (hj:v.ownBlock=some j):B<=j/\j<w.heap.size/\∃ cur,w.heap[j]?=some (.cells cur 3 (0,0)):=by
 rcases h.1.2 with ⟨rfl,_⟩ | ⟨g,cap,cur,rfl,hg,hh,_⟩
 · simp [Value.ownBlock] at hj
 · simp [Value.ownBlock] at hj
   subst hj;exact ⟨hg,(Array.getElem?_eq_some_iff.1 hh).1,cur,hh⟩
theorem ShR.below {B:Nat} {rs:List R3} {rv:List Value} {pl:List (ByteArray×Value)} {w w':World} (h:ShR B rs rv pl w) (hb:Below w.heap.size w w'):ShR B rs rv pl w':=
 h.kept (below_gb hb) (fun _ e=>by cases e) (fun k v e=>by
  cases hq:v.ownBlock with
  | none=>exact .inl rfl
  | some j=>exact .inr sm_)
theorem ShC.below {B H bT bR bP:Nat} {W:Int} {l pl:List (ByteArray×Value)} {rv:List Value} {w w':World} (h:ShC B H bT bR bP W l rv pl w) (hb:Below w.heap.size w w'):ShC B H bT bR bP W l rv pl w':=
 h.kept (below_gb hb) sm_ sm_ sm_ sm_
theorem ShR.map {B b:Nat} {rs:List R3} {rv:List Value} {pl:List (ByteArray×Value)} {w w':World} (h:ShR B rs rv pl w) (hg:w.grownBy w' (some b)) (hB:B<=b) {es:Array MapEntry} {c:Nat} (hm:w.heap[b]?=some (.map es c)):ShR B rs rv pl w':=
 h.kept hg (fun j e=>by cases e;exact ⟨hB,fun cur fr e=>by rw [hm] at e;simp at e⟩) (fun k v e=>by
  cases hq:v.ownBlock with
  | none=>exact .inl rfl
  | some j=>
   refine .inr fun e2=>?_;obtain ⟨_,_,cur,hc⟩:=ints_row (h.grp k v e) hq;cases e2;rw [hm] at hc;simp at hc)
theorem getK_put {l:List (ByteArray×Value)} (ha:Asc l) (k:ByteArray) (v:Value):Asc (insK (k,v) (l.filter fun p=>!decide (p.1=k)))/\∀ k',getK (insK (k,v) (l.filter fun p=>!decide (p.1=k))) k'=if k'=k then some v else getK l k':=by
 have hf:Asc (l.filter fun p=>!decide (p.1=k)):=ha.filter _;have hA:Asc (insK (k,v) (l.filter fun p=>!decide (p.1=k))):=insK_asc hf (fun p hp=>by have:=(List.mem_filter.1 hp).2;simpa using this);refine ⟨hA,fun k'=>?_⟩;have hmem:∀ p,p∈insK (k,v) (l.filter fun p=>!decide (p.1=k))↔p=(k,v)\/(p∈l/\p.1≠k):=fun p=>by
  rw [(insK_perm _ _).mem_iff,List.mem_cons,List.mem_filter];simp
 by_cases h:k'=k
 · subst h
   rw [if_pos rfl];exact getK_asc hA ((hmem _).2 (.inl rfl))
 · rw [if_neg h]
   cases hq:getK l k' with
   | none=>
    exact getK_none.2 (fun p hp=>by
     rcases (hmem p).1 hp with rfl | ⟨hp,_⟩
     · exact fun e=>h e.symm
     · exact getK_none.1 hq p hp)
   | some u=>exact getK_asc hA ((hmem _).2 (.inr ⟨getK_mem hq,h⟩))
theorem mapD_put' (l:List (ByteArray×Value)) (k:ByteArray) (v:Value):(mapD l).put (kS k) (.held v)=mapD (insK (k,v) (l.filter fun p=>!decide (p.1=k))):=by
 show DataW.map (DataW.insert (eS (k,v)) ((l.map eS).filter fun p=>!p.1.sameKey (kS k)))=DataW.map ((insK (k,v) _).map eS);rw [insK_eS,List.filter_map]
 congr 2
 congr 1
 apply List.filter_congr;intro p _;show (!(kS p.1).sameKey (kS k))=_;rw [kS_same]
def KF (w w':World):Prop:=∀ q t,OfT w q t->t≠3->w'.heap[q]?=w.heap[q]?
theorem KF.trans {w u v:World} (h:KF w u) (g:KF u v):KF w v:=fun q t hT ht=>by
 have e:=h q t hT ht;obtain ⟨cs,fr,hh⟩:=hT;exact (g q t ⟨cs,fr,e.trans hh⟩ ht).trans e
theorem kf_below {w w':World} {N:Nat} (h:Below N w w') (hN:w.heap.size<=N):KF w w':=fun q t hT _=>h.block q (by obtain ⟨cs,fr,hh⟩:=hT;have:=(Array.getElem?_eq_some_iff.1 hh).1;omega)
theorem kf_map {w w':World} {b c:Nat} {es:Array MapEntry} (hg:w.grownBy w' (some b)) (hm:w.heap[b]?=some (.map es c)):KF w w':=fun q t hT _=>by
 obtain ⟨cs,fr,hh⟩:=hT;refine hg.block q (Array.getElem?_eq_some_iff.1 hh).1 fun e=>?_;obtain rfl:=Option.some.inj e;rw [hm] at hh;cases hh
theorem kf_ints {w w':World} {B:Nat} {v:Value} {zs:List Int} (hg:w.grownBy w' v.ownBlock) (h:w.ownsInts B 3 .i64 v zs):KF w w':=fun q t hT ht=>by
 obtain ⟨cs,fr,hh⟩:=hT;refine hg.block q (Array.getElem?_eq_some_iff.1 hh).1 fun e=>?_;obtain ⟨_,_,cur,hc⟩:=ints_row h e.symm;rw [hh] at hc;injection hc with hc;injection hc with _ hc _;exact ht hc
end Go.Proofs.YtlckdgjfniglfaaGreatDoor
namespace Go.Proofs
open Go.Shelf
def Tryz.lays146_ren:Go.Shelf.Ren:=⟨fun | 146=>80 | 221=>115 | 268=>146 | 138=>147 | 143=>148 | 195=>168 | 197=>169 | 218=>170 | 219=>144 | 260=>198 | 217=>164 | 225=>165 | 224=>166 | 267=>167 | 266=>196 | 314=>197 | n=>n,fun | 9=>9 | 3=>3 | 31=>22 | 4=>4 | 0=>0 | 105=>223 | 21=>21 | 5=>5 | 46=>180 | 119=>257 | 139=>260 | 138=>259 | 146=>246 | 51=>238 | n=>n,fun | 1=>0 | 3=>1 | 4=>2 | n=>n⟩
theorem Tryz.lays146:Go.Proofs.Lays.n146 prog Tryz.lays146_ren:={
 mixed:=kr_
 f138:=func147.trans (congrArg some kr_)
 f143:=func148.trans (congrArg some kr_)
 f146:=func80.trans (congrArg some kr_)
 f195:=func168.trans (congrArg some kr_)
 f197:=func169.trans (congrArg some kr_)
 f217:=func164.trans (congrArg some kr_)
 f218:=func170.trans (congrArg some kr_)
 f219:=func144.trans (congrArg some kr_)
 f221:=func115.trans (congrArg some kr_)
 f224:=func166.trans (congrArg some kr_)
 f225:=func165.trans (congrArg some kr_)
 f260:=func198.trans (congrArg some kr_)
 f266:=func196.trans (congrArg some kr_)
 f267:=func167.trans (congrArg some kr_)
 f268:=func146.trans (congrArg some kr_)
 f314:=func197.trans (congrArg some kr_)
 t0:=underlying0
 a0:=Tryz.isAgg0
 z0:=Tryz.sizeOf0
 v0:=Tryz.zeroValue0
 t3:=underlying3
 a3:=Tryz.isAgg3
 z3:=Tryz.sizeOf3
 v3:=Tryz.zeroValue3
 t4:=underlying4
 a4:=Tryz.isAgg4
 z4:=Tryz.sizeOf4
 v4:=Tryz.zeroValue4
 t5:=underlying5
 a5:=Tryz.isAgg5
 z5:=Tryz.sizeOf5
 v5:=Tryz.zeroValue5
 t9:=underlying9
 a9:=Tryz.isAgg9
 z9:=Tryz.sizeOf9
 v9:=Tryz.zeroValue9
 t21:=underlying21
 a21:=Tryz.isAgg21
 z21:=Tryz.sizeOf21
 v21:=Tryz.zeroValue21
 t31:=underlying22
 a31:=Tryz.isAgg22
 z31:=Tryz.sizeOf22
 v31:=Tryz.zeroValue22
 t46:=underlying180
 a46:=Tryz.isAgg180
 z46:=Tryz.sizeOf180
 v46:=Tryz.zeroValue180
 t51:=underlying238
 a51:=Tryz.isAgg238
 z51:=Tryz.sizeOf238
 v51:=Tryz.zeroValue238
 t105:=underlying223
 a105:=Tryz.isAgg223
 z105:=Tryz.sizeOf223
 v105:=Tryz.zeroValue223
 t119:=underlying257
 a119:=Tryz.isAgg257
 z119:=Tryz.sizeOf257
 t138:=underlying259
 a138:=Tryz.isAgg259
 z138:=Tryz.sizeOf259
 v138:=Tryz.zeroValue259
 t139:=underlying260
 a139:=Tryz.isAgg260
 z139:=Tryz.sizeOf260
 v139:=Tryz.zeroValue260
 t146:=underlying246
 a146:=Tryz.isAgg246
 z146:=Tryz.sizeOf246
 v146:=Tryz.zeroValue246
 g1:=kr_
 g3:=kr_
 g4:=by kernel_rfl }
theorem Tryz.strings_Split (s sep:ByteArray) (m:Int) (w:World) (hs:s.size<4294967281) (hm:w.cell? ⟨0,0,none⟩=some (.int .i64 m)) (h1:1<=sep.size):
 Calls prog 80 #[.string s,.string sep] w fun e w'=>
  e=.returned (.slice (some ⟨w.heap.size,0,none⟩) (Lib.countB s sep+1) (Lib.countB s sep+1))/\w'=w.alloc (.cells ((Lib.splitB sep 0 (Lib.countB s sep) s).map Value.string).toArray 9):=Any.strings_Split Tryz.lays146 kr_ s sep m w hs hm h1
end Go.Proofs
namespace Go.Proofs.YtlckdgjfniglfaaGreatDoor
open Proofs.Tryz
open Go.RowKit
def lookW (h:Bool):ByteArray:=if h then ⟨#[104,97,115]⟩ else ⟨#[97,115,107]⟩
end Go.Proofs.YtlckdgjfniglfaaGreatDoor
