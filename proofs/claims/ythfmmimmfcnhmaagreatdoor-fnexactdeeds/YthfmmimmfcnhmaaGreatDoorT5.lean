import Derived.Test.YthfmmimmfcnhmaaGreatDoorZ03
set_option maxHeartbeats 8000000
set_option maxRecDepth 100000
namespace Go.Proofs.YthfmmimmfcnhmaaGreatDoor
open Proofs.Tryz
open Go.RowKit
theorem step_app {P:Program} {ops:Array Oper} {o:Oper} {a:Act} {w:World} {K:Act->World->Prop} {Q:Exit->Act->World->Prop} {E:Prop}
 (hg:o.guard=none) (s x:Operand) (t:TypeId) (hop:o.op=Op.call { callee:=Callee.builtin Builtin.append,args:=#[s,x],argTypes:=#[t,t] })
 (base:Nat) (e:TypeId) (i:TypeInfo) (z:Value) (size bytes:Nat) (h1:P.underlying t=some (.slice e)) (h2:P.info? e=some i) (h3:i.zero=some z) (h4:i.size=size) (h5:i.bytes=bytes) (h6:z.cells.size=size) (h7:0<size)
 (v:Value) (n:Nat) (xs:List Value) (hs:a.eval s=v) (hown:w.ownsRow base e size v n xs)
 (ad:Addr) (m c:Nat) (news:List Value) (hx:a.eval x=.slice (some ad) m c) (hn:news.length=m*size) (hc:∀ j u,news[j]?=some u->w.cell? (ad.add j)=some u) (h1c:∀ u∈news,u.oneCell'=true)
 (b1:n+m<=maxLen) (b2:(n+m)*bytes<=140737488355328) (hb:base<=w.heap.size)
 (hK:∀ v' w',w'.ownsRow base e size v' (n+m) (xs++news)->w.grownBy w' v.ownBlock->K (a.put o.dst v') w'):
 if Region.wanted o (yielded ops a.tmps)=true then Oper.wp P o a w K Q else E:=by
 have hw:Region.wanted o (yielded ops a.tmps)=true:=by simp [Region.wanted,hg]
 rw [if_pos hw]
 obtain ⟨v',w',hrun,r1,r2,_⟩:=run_append_own (P:=P) w base t o.type e i z size bytes h1 h2 h3 h4 h5 h6 h7 v n xs hown ad m c news hn hc h1c b1 b2 hb
 unfold Oper.wp
 simp [execOp,hop,resolve,invoke,builtin,hs,hx,hrun,Result.andThen]
 exact hK v' w' r1 r2
theorem conv_own {w:World} {base:Nat} {v:Value} {n:Nat} {l:List UInt8} (h:w.ownsRow base 5 1 v n (Lib.byteCells l)) (hn:0<n):(convert 103 9 v).run prog w=.ok (.string ⟨l.toArray⟩) w:=by
 have h':=h
 obtain ⟨h1,h2⟩:=h
 rcases h2 with ⟨_,h0⟩ | ⟨g,cp,cur,rfl,hg,hh,_⟩
 · omega
 have hl:l.length=n:=by rw [cells_len] at h1;omega
 have:=run_convert_bytes_arg (P:=prog) w 103 5 underlying103 underlying5 g 0 n cp (l.map fun b=>(b.toNat:Int)) (by simpa using hl) (fun i hi=>by
  rw [Nat.zero_add,h'.cellAt i (by omega)]
  have hi':i<l.length:=by omega
  simp [Lib.byteCells,hi']) 9 underlying9
 rw [this]
 have e:l.map ((fun n:Int=>UInt8.ofNat n.toNat)∘fun b=>(b.toNat:Int))=l:=(List.map_congr_left (fun b _=>by simp)).trans (List.map_id l)
 simp only [strOfNums,List.map_map,e]
theorem notPlain {c:UInt8} (h:¬ plainB c=true):(c.toNat:Int)<32\/126<(c.toNat:Int)\/((32:Int)<=(c.toNat:Int)/\(c.toNat:Int)<=126/\((c.toNat:Int) !=34)=false)\/((32:Int)<=(c.toNat:Int)/\(c.toNat:Int)<=126/\((c.toNat:Int) !=34)=true/\((c.toNat:Int) !=92)=false):=by
 unfold plainB at h
 simp only [Bool.and_eq_true,decide_eq_true_eq,Bool.not_eq_true',beq_eq_false_iff_ne] at h
 simp only [bne_eq_false_iff_eq,bne_iff_ne]
 omega
theorem wrap_div (c:UInt8):IntKind.u8.wrap ((c.toNat:Int) / 16)=(c.toNat:Int) / 16:=by
 have:=c.toNat_lt
 simp [IntKind.wrap,IntKind.signed,IntKind.bits];omega
theorem row3 (w:World) (x y z:Value) (t:TypeId):∀ j u,[x,y,z][j]?=some u->(w.alloc (.cells #[x,y,z] t)).drew.cell? ((⟨w.heap.size,0,none⟩:Addr).add j)=some u:=by
 intro j u h
 match j,h with
 | 0,h=>simp at h;subst h;simp [Addr.add]
 | 1,h=>simp at h;subst h;simp [Addr.add]
 | 2,h=>simp at h;subst h;simp [Addr.add]
theorem c112 (s:ByteArray) (w:World) (hs:s.size<=1048700):
 Calls prog 112 #[.string s] w fun e w'=>e=.returned (.string ⟨(quoteL s.data.toList).toArray⟩)/\Below w.heap.size w w':=by
 obtain ⟨i0,hi,hz0,hz1,hz2⟩:=info_parts info5
 go_enter func112,ntmps112
 go_wp2_with fail
 go_loopw [3,5] (fun v i wr=>∃ (k:Nat),k<=s.size/\i=.int .i64 k/\wr.ownsRow w.heap.size 5 1 v (34::(s.data.toList.take k).flatMap qb).length (Lib.byteCells (34::(s.data.toList.take k).flatMap qb))/\Below w.heap.size w wr/\w.heap.size+1<=wr.heap.size) (fun _ i _=>s.size - (intOf i).toNat)
 case atStart=>exact ⟨0,Nat.zero_le _,rfl,World.ownsRow_lit _ #[.int .u8 34] 1 (Nat.le_refl _) (by unfold maxLen;omega) rfl,(Below.refl _ _).alloc (Nat.le_refl _) _,by simp⟩
 obtain ⟨k,hk,rfl,hown,hb,hz⟩:=hrel
 have hL:(34::(s.data.toList.take k).flatMap qb:List UInt8).length<=3*k+1:=by
  have:=flat_len (s.data.toList.take k)
  have h2:(s.data.toList.take k).length<=k:=List.length_take_le _ _
  rw [List.length_cons];omega
 by_cases hlt:k<s.size
 rotate_left
 · have HT:Hid (quoteL s.data.toList=(34::(s.data.toList.take k).flatMap qb)++[34]):=by rw [List.take_of_length_le (by simp;omega)];rfl
   generalize hl:(34::(s.data.toList.take k).flatMap qb:List UInt8)=l at*
   clear hl
   go_wp2_with (at_builtin;refine wpList_append_own _ rfl _ _ 103 rfl w.heap.size 5 i0 (.int .u8 0) 1 1 underlying103 hi hz0 hz1 hz2 rfl (by decide) _ _ _ rfl (hown.alloc _) ⟨wr.heap.size,0,none⟩ 1 1 [_] rfl rfl (cell_one_new _ _ _) (by intro u hu;simp at hu;subst hu;rfl) (by unfold maxLen;omega) (by omega) (by simp;omega) ?_;intro v' w2 hown' hgrow _;have hcv:=conv_own (l:=l++[34]) (by rw [cells_snoc];exact hown') (by omega))
   go_ret
   have hB2:Below w.heap.size w w2:=(hb.alloc hb.size _).grown hgrow (by simp;omega) (fun j hj=>(hown.lt j hj).1)
   exact ⟨by rw [HT.out];rfl,hB2⟩
 have HS:Hid (34::(s.data.toList.take (k+1)).flatMap qb=(34::(s.data.toList.take k).flatMap qb)++qb s[k]):=by rw [take_snoc s k hlt];simp [Hid]
 generalize hl:(34::(s.data.toList.take k).flatMap qb:List UInt8)=l at*
 clear hl
 have hby:(s[k].toNat:Int)<256:=by have:=s[k].toNat_lt;omega
 by_cases hp:plainB s[k]=true
 · have HQ:Hid (qb s[k]=[s[k]]):=by unfold qb;rw [if_pos hp];rfl
   unfold plainB at hp
   simp only [Bool.and_eq_true,decide_eq_true_eq,Bool.not_eq_true',beq_eq_false_iff_ne] at hp
   obtain ⟨⟨⟨p1,p2⟩,p3⟩,p4⟩:=hp
   have q3:((s[k].toNat:Int) !=34)=true:=by simpa using p3
   have q4:((s[k].toNat:Int) !=92)=true:=by simpa using p4
   go_wp2_with (at_builtin;refine wpList_append_own _ rfl _ _ 103 rfl w.heap.size 5 i0 (.int .u8 0) 1 1 underlying103 hi hz0 hz1 hz2 rfl (by decide) _ _ _ rfl (hown.alloc _) ⟨wr.heap.size,0,none⟩ 1 1 [_] rfl rfl (cell_one_new _ _ _) (by intro u hu;simp at hu;subst hu;rfl) (by unfold maxLen;omega) (by omega) (by simp;omega) ?_;intro v' w2 hown' hgrow _)
   go_roundw
   case rel=>
    have hB2:Below w.heap.size w w2:=(hb.alloc hb.size _).grown hgrow (by simp;omega) (fun j hj=>(hown.lt j hj).1)
    refine ⟨k+1,by omega,by go_num,?_,hB2,by have:=hgrow.size;simp at this;omega⟩
    rw [HS.out,HQ.out,cells_snoc,List.length_append]
    exact hown'
   case measure=>simp [intOf];omega
 have HQ:Hid (qb s[k]=[92,hexL.getD (s[k].toNat / 16) 0,hexL.getD (s[k].toNat % 16) 0]):=by unfold qb;rw [if_neg hp];rfl
 have hnp:=notPlain hp
 have k1:IntKind.u8.wrap ((s[k].toNat:Int) / 16)<16:=by rw [wrap_div s[k]];omega
 have k2:0<=(s[k].toNat:Int).tmod 16:=by rw [Int.tmod_eq_emod_of_nonneg (by omega)];omega
 have k3:(s[k].toNat:Int).tmod 16<16:=by rw [Int.tmod_eq_emod_of_nonneg (by omega)];omega
 clear hp
 have e1:∀ h1:(IntKind.u8.wrap ((s[k].toNat:Int) / 16)).toNat<hexA.size,hexA[(IntKind.u8.wrap ((s[k].toNat:Int) / 16)).toNat]'h1=hexL.getD (s[k].toNat / 16) 0:=fun h1=>by
  rw [hex_get];congr 1;rw [wrap_div];omega
 have e2:∀ h1:((s[k].toNat:Int).tmod 16).toNat<hexA.size,hexA[((s[k].toNat:Int).tmod 16).toNat]'h1=hexL.getD (s[k].toNat % 16) 0:=fun h1=>by
  rw [hex_get];congr 1
 have E1:Hid (∀ h1:(IntKind.u8.wrap ((s[k].toNat:Int) / 16)).toNat<hexA.size,hexA[(IntKind.u8.wrap ((s[k].toNat:Int) / 16)).toNat]'h1=hexL.getD (s[k].toNat / 16) 0):=e1
 have E2:Hid (∀ h1:((s[k].toNat:Int).tmod 16).toNat<hexA.size,hexA[((s[k].toNat:Int).tmod 16).toNat]'h1=hexL.getD (s[k].toNat % 16) 0):=e2
 clear e1 e2
 rcases hnp with h | h | ⟨h,h',h''⟩ | ⟨h,h',h'',h3⟩
 all_goals
  go_wp2_with fail
  go_region_law (refine step_app rfl (.tmp 41) (.tmp 54) 103 rfl w.heap.size 5 i0 (.int .u8 0) 1 1 underlying103 hi hz0 hz1 hz2 rfl (by decide) _ _ _ rfl ((hown.alloc _).drew) ⟨wr.heap.size,0,none⟩ 3 3 [_,_,_] rfl rfl (row3 _ _ _ _ _) (by intro u hu;simp at hu;rcases hu with rfl | rfl | rfl <;> rfl) (by unfold maxLen;omega) (by omega) (by simp;omega) ?_;intro v' w2 hown' hgrow)
  all_goals go_wp2
  all_goals go_roundw
  all_goals first
   | (refine ⟨k+1,by omega,by go_num,?_,((hb.alloc hb.size _).drew).grown hgrow (by simp;omega) (fun j hj=>(hown.lt j hj).1),by have:=hgrow.size;simp at this;omega⟩;rw [HS.out,HQ.out,cells_snoc,List.length_append];have hq:=hown';rw [show Lib.byteCells [92,hexL.getD (s[k].toNat / 16) 0,hexL.getD (s[k].toNat % 16) 0]=[.int .u8 92,.int .u8 (hexA[(IntKind.u8.wrap ((s[k].toNat:Int) / 16)).toNat]'(by show _<16;omega)).toNat,.int .u8 (hexA[((s[k].toNat:Int).tmod 16).toNat]'(by show _<16;omega)).toNat] by rw [E1.out,E2.out];rfl];exact hq)
   | (simp [intOf];omega)
variable {w:World} {j k:Nat} {is:List I3}
def usesTo (op:Int):Bool:=op==7 || op==8 || op==9
def usesTx (op:Int):Bool:=op==1 || op==6 || op==8
def okI (x:I3):Bool:=decide (1<=x.op/\x.op<=11)&&(usesTo x.op || x.to==0)&&(usesTx x.op || x.tx.toList.isEmpty)&&decide (0<=x.to/\x.to<=40)&&decide ((x.tx.size:Int)<=300)
def word (op:Int):List UInt8:=if op=1 then [108,105,116] else if op=2 then [97,114,103] else if op=3 then [97,115,107] else if op=4 then [104,97,115] else if op=5 then [112,117,116] else if op=6 then [99,97,116] else if op=7 then [108,105,110,101] else if op=8 then [105,102] else if op=9 then [103,111] else if op=10 then [101,110,100] else if op=11 then [102,97,105,108] else []
def wordA (op:Int):ByteArray:=⟨(word op).toArray⟩
def ShapesAt (w:World):Prop:=∀ op:Nat,1<=op->op<=11->w.cell? ⟨9,op*3,none⟩=some (.string (wordA op))/\w.cell? ⟨9,op*3+1,none⟩=some (.bool (usesTo op))/\w.cell? ⟨9,op*3+2,none⟩=some (.bool (usesTx op))
theorem shapes_pos (h:ShapesAt w):9<w.heap.size:=by
 obtain ⟨a,_⟩:=h 1 (by omega) (by omega)
 rcases Nat.lt_or_ge 9 w.heap.size with h | h
 · exact h
 simp [World.cell?,Array.getElem?_eq_none h] at a
theorem cell_past {v:Value} (h0:9<w.heap.size) (h:w.cell? ⟨9,j,none⟩=some v):∀ o,(w.alloc o).cell? ⟨9,j,none⟩=some v:=fun o=>by
 rw [((Below.refl w.heap.size w).alloc (Nat.le_refl _) o).cell (by exact h0)];exact h
theorem shapes_below {w':World} (h:ShapesAt w) (hb:Below w.heap.size w w'):ShapesAt w':=by
 intro op h1 h2
 obtain ⟨a,b,c⟩:=h op h1 h2
 have h0:9<w.heap.size:=by
  rcases Nat.lt_or_ge 9 w.heap.size with h | h
  · exact h
  simp [World.cell?,Array.getElem?_eq_none h] at a
 rw [hb.cell (by exact h0),hb.cell (by exact h0),hb.cell (by exact h0)]
 exact ⟨a,b,c⟩
theorem c153_in (op:Nat) (tx:ByteArray) (to:Int) (w:World) (_hs:tx.size<=1048700) (h1:1<=op) (h2:op<=11) (hsh:ShapesAt w):
 Calls prog 153 #[.agg #[.int .i64 op,.string tx,.int .i64 to]] w fun e w'=>e=.returned (.bool (okI ⟨op,tx,to⟩))/\Below w.heap.size w w':=by
 obtain ⟨a0,b0,c0⟩:=hsh op h1 h2
 have h0:=shapes_pos hsh
 have a:=cell_past h0 a0
 have b:=cell_past h0 b0
 have c:=cell_past h0 c0
 clear hsh a0 b0 c0
 have HO:Hid (okI ⟨op,tx,to⟩=((usesTo op || to==0)&&(usesTx op || tx.toList.isEmpty)&&decide (0<=to/\to<=40)&&decide ((tx.size:Int)<=300))):=by
  unfold okI;simp only [show decide ((1:Int)<=(op:Int)/\(op:Int)<=11)=true by simp;omega,Bool.true_and];trivial
 have ho1:(1:Int)<=(op:Int):=by omega
 have ho2:(op:Int)<=11:=by omega
 generalize usesTo op=tO at*
 generalize usesTx op=tX at*
 have hB:∀ o1 o2:Obj,Below w.heap.size w ((w.alloc o1).alloc o2):=fun o1 o2=>((Below.refl _ _).alloc (Nat.le_refl _) _).alloc (by simp) _
 cases tO <;> cases tX
 all_goals
  go_enter func153,ntmps153
  go_wp2
  all_goals go_ret
  all_goals refine ⟨ret_bool ?_,hB _ _⟩
  all_goals rw [HO.out]
  all_goals clear a b c HO hB h1 h2 ho1 ho2
  all_goals first | (simp_all;done) | (simp_all;omega)
theorem c153 (x:I3) (w:World) (hs:x.tx.size<=1048700) (hsh:ShapesAt w):
 Calls prog 153 #[.agg #[.int .i64 x.op,.string x.tx,.int .i64 x.to]] w fun e w'=>e=.returned (.bool (okI x))/\Below w.heap.size w w':=by
 by_cases h:1<=x.op/\x.op<=11
 · obtain ⟨n,hn⟩:=Int.eq_ofNat_of_zero_le (show 0<=x.op by omega)
   have:=c153_in n x.tx x.to w hs (by omega) (by omega) hsh
   rw [<- hn] at this
   exact this
 have HO:Hid (okI x=false):=by unfold okI;rw [show decide (1<=x.op/\x.op<=11)=false by simpa using h];rfl
 clear hsh
 have hc:x.op<1\/11<x.op:=by omega
 rcases hc with hc | hc
 all_goals
  go_enter func153,ntmps153
  go_wp2
  all_goals go_ret
  all_goals exact ⟨ret_bool HO.out.symm,(Below.refl _ _).alloc (Nat.le_refl _) _⟩
def okT (is:List I3):Bool:=decide (1<=is.length/\is.length<=40)&&is.all okI
theorem all_snoc (h:k<is.length) (ha:(is.take k).all okI=true) (hx:okI (is.getD k i3z)=true):(is.take (k+1)).all okI=true:=by
 rw [List.take_succ_eq_append_getElem h,List.all_append,ha]
 have e:is.getD k i3z=is[k]:=by simp [h]
 rw [e] at hx
 simp [hx]
theorem all_not (h:k<is.length) (hx:okI (is.getD k i3z)=false):is.all okI=false:=by
 rw [List.all_eq_false]
 have e:is.getD k i3z=is[k]:=by simp [h]
 rw [e] at hx
 exact ⟨is[k],List.getElem_mem h,by simp [hx]⟩
theorem c137 (a:Option Addr) (cap:Nat) (is:List I3) (w:World) (hs:∀ i,(is.getD i i3z).tx.size<=1048700) (hl:is.length<=1048576) (hat:InsAt w a is) (hsh:ShapesAt w):
 Calls prog 137 #[.agg #[.slice a is.length cap]] w fun e w'=>e=.returned (.bool (okT is))/\Below w.heap.size w w':=by
 by_cases hn:1<=is.length/\is.length<=40
 rotate_left
 · have HO:Hid (okT is=false):=by unfold okT;rw [show decide (1<=is.length/\is.length<=40)=false by simpa using hn];rfl
   clear hat hsh
   by_cases h1:1<=is.length
   all_goals
    go_enter func137,ntmps137
    go_wp2
    all_goals go_ret
    all_goals exact ⟨ret_bool HO.out.symm,(Below.refl _ _).alloc (Nat.le_refl _) _⟩
 have HO:Hid (okT is=is.all okI):=by unfold okT;rw [show decide (1<=is.length/\is.length<=40)=true by simpa using hn];rfl
 obtain ⟨hn1,hn2⟩:=hn
 have h0:=shapes_pos hsh
 have HSH:Hid (ShapesAt w):=hsh
 obtain ⟨b,off,hc⟩:=ins_some hat
 rcases hc with hc | ⟨rfl,hbw,hcell⟩
 · rw [hc] at hn1;simp at hn1
 clear hat hsh
 go_enter func137,ntmps137
 go_wp2_with fail
 go_loopw [18] (fun i wr=>∃ (k:Nat),k<=is.length/\i=.int .i64 k/\Below w.heap.size w wr/\Hid ((is.take k).all okI=true)) (fun i _=>is.length - (intOf i).toNat)
 case atStart=>exact ⟨0,Nat.zero_le _,rfl,(Below.refl _ _).alloc (Nat.le_refl _) _,rfl⟩
 obtain ⟨k,hk,rfl,hb,hall⟩:=hrel
 by_cases hlt:k<is.length
 rotate_left
 · have HN:Hid (okT is=true):=by rw [HO.out];have:=hall.out;rwa [List.take_of_length_le (by omega)] at this
   go_wp2
   go_ret
   exact ⟨ret_bool HN.out.symm,hb⟩
 have g0:=(hb.cell (p:=⟨b,off+k*3,none⟩) hbw).trans (hcell k hlt).1
 have g1:=(hb.cell (p:=⟨b,off+k*3+1,none⟩) hbw).trans (hcell k hlt).2.1
 have g2:=(hb.cell (p:=⟨b,off+k*3+2,none⟩) hbw).trans (hcell k hlt).2.2
 have hxs:=hs k
 generalize hx:is.getD k i3z=x at*
 have HX:Hid (is.getD k i3z=x):=hx
 clear hx
 have HCE:Hid (∀ i,i<is.length->w.cell? ⟨b,off+i*3,none⟩=some (.int .i64 (is.getD i i3z).op)/\w.cell? ⟨b,off+i*3+1,none⟩=some (.string (is.getD i i3z).tx)/\w.cell? ⟨b,off+i*3+2,none⟩=some (.int .i64 (is.getD i i3z).to)):=hcell
 clear hcell
 go_wp2_with fail
 refine (c153 x _ hxs (shapes_below HSH.out (hb.alloc hb.size _))).mono ?_
 rintro e w1 ⟨rfl,hb1⟩
 have hB1:Below w.heap.size w w1:=(hb.alloc hb.size _).trans (hb1.mono (by have:=hb.size;simp;omega))
 cases hok:okI x
 · have HN:Hid (okT is=false):=by rw [HO.out];exact all_not hlt (by rw [HX.out];exact hok)
   clear hok
   go_wp2
   go_ret
   exact ⟨ret_bool HN.out.symm,hB1⟩
 have hall':Hid ((is.take (k+1)).all okI=true):=all_snoc hlt hall.out (by rw [HX.out];exact hok)
 clear hok
 go_wp2
 go_roundw
 case rel=>exact ⟨k+1,by omega,by go_num,hB1,hall'⟩
 case measure=>simp [intOf];omega
