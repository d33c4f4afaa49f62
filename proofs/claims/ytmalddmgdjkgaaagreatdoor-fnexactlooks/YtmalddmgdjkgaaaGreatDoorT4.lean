import Derived.Test.YtmalddmgdjkgaaaGreatDoorZ03
import Derived.Deep.RegionLaw
namespace Go.Proofs.YtmalddmgdjkgaaaGreatDoor
open Go.RowKit
theorem step_app {P:Program} {ops:Array Oper} {o:Oper} {a:Act} {w:World} {K:Act→World→Prop} {Q:Exit→Act→World→Prop} {E:Prop}
 (hg:o.guard=none) (s x:Operand) (t:TypeId) (hop:o.op=Op.call { callee:=Callee.builtin Builtin.append,args:=#[s,x],argTypes:=#[t,t] })
 (base:Nat) (e:TypeId) (i:TypeInfo) (z:Value) (size bytes:Nat) (h1:P.underlying t=some (.slice e)) (h2:P.info? e=some i) (h3:i.zero=some z) (h4:i.size=size) (h5:i.bytes=bytes) (h6:z.cells.size=size) (h7:0<size)
 (v:Value) (n:Nat) (xs:List Value) (hs:a.eval s=v) (hown:w.ownsRow base e size v n xs)
 (ad:Addr) (m c:Nat) (news:List Value) (hx:a.eval x=.slice (some ad) m c) (hn:news.length=m*size) (hc:∀ j u,news[j]?=some u→w.cell? (ad.add j)=some u) (h1c:∀ u∈news,u.oneCell'=true)
 (b1:n+m≤maxLen) (b2:(n+m)*bytes≤140737488355328) (hb:base≤w.heap.size)
 (hK:∀ v' w',w'.ownsRow base e size v' (n+m) (xs++news)→w.grownBy w' v.ownBlock→K (a.put o.dst v') w'):
 if Region.wanted o (yielded ops a.tmps)=true then Oper.wp P o a w K Q else E:=by
 have hw:Region.wanted o (yielded ops a.tmps)=true:=by simp [Region.wanted,hg]
 rw [if_pos hw]
 obtain ⟨v',w',hrun,r1,r2,_⟩:=run_append_own (P:=P) w base t o.type e i z size bytes h1 h2 h3 h4 h5 h6 h7 v n xs hown ad m c news hn hc h1c b1 b2 hb
 unfold Oper.wp
 simp [execOp,hop,resolve,invoke,builtin,hs,hx,hrun,Result.andThen]
 exact hK v' w' r1 r2
theorem conv_own {w:World} {base:Nat} {v:Value} {n:Nat} {l:List UInt8} (h:w.ownsRow base 5 1 v n (Lib.byteCells l)) (hn:0<n):(convert 88 9 v).run Tryz.prog w=.ok (.string ⟨l.toArray⟩) w:=by
 have h':=h
 obtain ⟨h1,h2⟩:=h
 rcases h2 with ⟨_,h0⟩ | ⟨g,cp,cur,rfl,hg,hh,_⟩
 · omega
 have hl:l.length=n:=by rw [cells_len] at h1;omega
 have:=run_convert_bytes_arg (P:=Tryz.prog) w 88 5 Tryz.underlying88 Tryz.underlying5 g 0 n cp (l.map fun b=>(b.toNat:Int)) (by simpa using hl) (fun i hi=>by
  rw [Nat.zero_add,h'.cellAt i (by omega)]
  have hi':i<l.length:=by omega
  simp [Lib.byteCells,hi']) 9 Tryz.underlying9
 rw [this]
 have e:l.map ((fun n:Int=>UInt8.ofNat n.toNat)∘fun b=>(b.toNat:Int))=l:=(List.map_congr_left (fun b _=>by simp)).trans (List.map_id l)
 simp only [strOfNums,List.map_map,e]
theorem notPlain {c:UInt8} (h:¬ plainB c=true):(c.toNat:Int)<32∨126<(c.toNat:Int)∨((32:Int)≤(c.toNat:Int)∧(c.toNat:Int)≤126∧((c.toNat:Int)!=34)=false)∨((32:Int)≤(c.toNat:Int)∧(c.toNat:Int)≤126∧((c.toNat:Int)!=34)=true∧((c.toNat:Int)!=92)=false):=by
 unfold plainB at h
 simp only [Bool.and_eq_true,decide_eq_true_eq,Bool.not_eq_true',beq_eq_false_iff_ne] at h
 simp only [bne_eq_false_iff_eq,bne_iff_ne]
 omega
theorem wrap_div (c:UInt8):IntKind.u8.wrap ((c.toNat:Int) / 16)=(c.toNat:Int) / 16:=by
 have:=c.toNat_lt
 simp [IntKind.wrap,IntKind.signed,IntKind.bits];omega
theorem row3 (w:World) (x y z:Value) (t:TypeId):∀ j u,[x,y,z][j]?=some u→(w.alloc (.cells #[x,y,z] t)).drew.cell? ((⟨w.heap.size,0,none⟩:Addr).add j)=some u:=by
 intro j u h
 match j,h with
 | 0,h=>simp at h;subst h;simp [Addr.add]
 | 1,h=>simp at h;subst h;simp [Addr.add]
 | 2,h=>simp at h;subst h;simp [Addr.add]
set_option maxHeartbeats 2000000 in
set_option maxRecDepth 100000 in
theorem c80 (s:ByteArray) (w:World) (hs:s.size≤1048700):
 Calls Tryz.prog 80 #[.string s] w fun e w'=>e=.returned (.string ⟨(quoteL s.data.toList).toArray⟩)∧Below w.heap.size w w':=by
 obtain ⟨i0,hi,hz0,hz1,hz2⟩:=info_parts info5
 go_enter Tryz.func80,Tryz.ntmps80
 go_wp2_with fail
 go_loopw [3,5] (fun v i wr=>∃ (k:Nat),k≤s.size∧i=.int .i64 k∧wr.ownsRow w.heap.size 5 1 v (34::(s.data.toList.take k).flatMap qb).length (Lib.byteCells (34::(s.data.toList.take k).flatMap qb))∧Below w.heap.size w wr∧w.heap.size+1≤wr.heap.size) (fun _ i _=>s.size - (intOf i).toNat)
 case atStart=>exact ⟨0,Nat.zero_le _,rfl,World.ownsRow_lit _ #[.int .u8 34] 1 (Nat.le_refl _) (by unfold maxLen;omega) rfl,(Below.refl _ _).alloc (Nat.le_refl _) _,by simp⟩
 case round=>
  obtain ⟨k,hk,rfl,hown,hb,hz⟩:=hrel
  have hL:(34::(s.data.toList.take k).flatMap qb:List UInt8).length≤3*k+1:=by
   have:=flat_len (s.data.toList.take k)
   have h2:(s.data.toList.take k).length≤k:=List.length_take_le _ _
   rw [List.length_cons];omega
  by_cases hlt:k<s.size
  · have HS:Hid (34::(s.data.toList.take (k+1)).flatMap qb=(34::(s.data.toList.take k).flatMap qb)++qb s[k]):=by rw [take_snoc s k hlt];simp [Hid]
    generalize hl:(34::(s.data.toList.take k).flatMap qb:List UInt8)=l at*
    clear hl
    have hby:(s[k].toNat:Int)<256:=by have:=s[k].toNat_lt;omega
    by_cases hp:plainB s[k]=true
    · have HQ:Hid (qb s[k]=[s[k]]):=by unfold qb;rw [if_pos hp];rfl
      unfold plainB at hp
      simp only [Bool.and_eq_true,decide_eq_true_eq,Bool.not_eq_true',beq_eq_false_iff_ne] at hp
      obtain ⟨⟨⟨p1,p2⟩,p3⟩,p4⟩:=hp
      have q3:((s[k].toNat:Int)!=34)=true:=by simpa using p3
      have q4:((s[k].toNat:Int)!=92)=true:=by simpa using p4
      go_wp2_with (at_builtin;refine wpList_append_own _ rfl _ _ 88 rfl w.heap.size 5 i0 (.int .u8 0) 1 1 Tryz.underlying88 hi hz0 hz1 hz2 rfl (by decide) _ _ _ rfl (hown.alloc _) ⟨wr.heap.size,0,none⟩ 1 1 [_] rfl rfl (cell_one_new _ _ _) (by intro u hu;simp at hu;subst hu;rfl) (by unfold maxLen;omega) (by omega) (by simp;omega) ?_;intro v' w2 hown' hgrow _)
      go_roundw
      case rel=>
       have hB2:Below w.heap.size w w2:=(hb.alloc hb.size _).grown hgrow (by simp;omega) (fun j hj=>(hown.lt j hj).1)
       refine ⟨k+1,by omega,by go_num,?_,hB2,by have:=hgrow.size;simp at this;omega⟩
       rw [HS.out,HQ.out,cells_snoc,List.length_append]
       exact hown'
      case measure=>simp [intOf];omega
    have HQ:Hid (qb s[k]=[92,hexL.getD (s[k].toNat / 16) 0,hexL.getD (s[k].toNat % 16) 0]):=by unfold qb;rw [if_neg hp];rfl
    have hnp:=notPlain hp
    have k1:IntKind.u8.wrap ((s[k].toNat:Int) / 16)<16:=by rw [wrap_div s[k]];omega
    have k2:0≤(s[k].toNat:Int).tmod 16:=by rw [Int.tmod_eq_emod_of_nonneg (by omega)];omega
    have k3:(s[k].toNat:Int).tmod 16<16:=by rw [Int.tmod_eq_emod_of_nonneg (by omega)];omega
    clear hp
    have e1:∀ h1:(IntKind.u8.wrap ((s[k].toNat:Int) / 16)).toNat<hexA.size,hexA[(IntKind.u8.wrap ((s[k].toNat:Int) / 16)).toNat]'h1=hexL.getD (s[k].toNat / 16) 0:=fun h1=>by
     rw [hex_get];congr 1;rw [wrap_div];omega
    have e2:∀ h1:((s[k].toNat:Int).tmod 16).toNat<hexA.size,hexA[((s[k].toNat:Int).tmod 16).toNat]'h1=hexL.getD (s[k].toNat % 16) 0:=fun h1=>by
     rw [hex_get];congr 1
    have E1:Hid (∀ h1:(IntKind.u8.wrap ((s[k].toNat:Int) / 16)).toNat<hexA.size,hexA[(IntKind.u8.wrap ((s[k].toNat:Int) / 16)).toNat]'h1=hexL.getD (s[k].toNat / 16) 0):=e1
    have E2:Hid (∀ h1:((s[k].toNat:Int).tmod 16).toNat<hexA.size,hexA[((s[k].toNat:Int).tmod 16).toNat]'h1=hexL.getD (s[k].toNat % 16) 0):=e2
    clear e1 e2
    rcases hnp with h | h | ⟨h,h',h''⟩ | ⟨h,h',h'',h3⟩
    all_goals
     go_wp2_with fail
     go_region_law (refine step_app rfl (.tmp 41) (.tmp 54) 88 rfl w.heap.size 5 i0 (.int .u8 0) 1 1 Tryz.underlying88 hi hz0 hz1 hz2 rfl (by decide) _ _ _ rfl ((hown.alloc _).drew) ⟨wr.heap.size,0,none⟩ 3 3 [_,_,_] rfl rfl (row3 _ _ _ _ _) (by intro u hu;simp at hu;rcases hu with rfl | rfl | rfl <;> rfl) (by unfold maxLen;omega) (by omega) (by simp;omega) ?_;intro v' w2 hown' hgrow)
     all_goals go_wp2
     all_goals go_roundw
     all_goals first
      | (refine ⟨k+1,by omega,by go_num,?_,((hb.alloc hb.size _).drew).grown hgrow (by simp;omega) (fun j hj=>(hown.lt j hj).1),by have:=hgrow.size;simp at this;omega⟩;rw [HS.out,HQ.out,cells_snoc,List.length_append];have hq:=hown';rw [show Lib.byteCells [92,hexL.getD (s[k].toNat / 16) 0,hexL.getD (s[k].toNat % 16) 0]=[.int .u8 92,.int .u8 (hexA[(IntKind.u8.wrap ((s[k].toNat:Int) / 16)).toNat]'(by show _<16;omega)).toNat,.int .u8 (hexA[((s[k].toNat:Int).tmod 16).toNat]'(by show _<16;omega)).toNat] by rw [E1.out,E2.out];rfl];exact hq)
      | (simp [intOf];omega)
  have HT:Hid (quoteL s.data.toList=(34::(s.data.toList.take k).flatMap qb)++[34]):=by rw [List.take_of_length_le (by simp;omega)];rfl
  generalize hl:(34::(s.data.toList.take k).flatMap qb:List UInt8)=l at*
  clear hl
  go_wp2_with (at_builtin;refine wpList_append_own _ rfl _ _ 88 rfl w.heap.size 5 i0 (.int .u8 0) 1 1 Tryz.underlying88 hi hz0 hz1 hz2 rfl (by decide) _ _ _ rfl (hown.alloc _) ⟨wr.heap.size,0,none⟩ 1 1 [_] rfl rfl (cell_one_new _ _ _) (by intro u hu;simp at hu;subst hu;rfl) (by unfold maxLen;omega) (by omega) (by simp;omega) ?_;intro v' w2 hown' hgrow _;have hcv:=conv_own (l:=l++[34]) (by rw [cells_snoc];exact hown') (by omega))
  go_ret
  have hB2:Below w.heap.size w w2:=(hb.alloc hb.size _).grown hgrow (by simp;omega) (fun j hj=>(hown.lt j hj).1)
  exact ⟨by rw [HT.out];rfl,hB2⟩
end Go.Proofs.YtmalddmgdjkgaaaGreatDoor
