import Derived.Test.YthjhakdpikdoeaaGreatDoorZ15
set_option linter.unusedVariables false
set_option maxHeartbeats 8000000
set_option maxRecDepth 100000
namespace Go.Proofs.YthjhakdpikdoeaaGreatDoor
open Proofs.Tryz
open Go.RowKit
theorem c74 (c:Int) (s:ByteArray) (w:World) (hs:s.size<=1048700):
 Calls prog 74 #[.agg #[.int .i64 c,.string s]] w fun e w'=>e=.returned (.bool (vr c s.data.toList))/\Below w.heap.size w w':=by
 have hlen:s.data.toList.length=s.size:=sm_;by_cases h01:c=0\/c=1
 · have hV:Hid (vr c s.data.toList=decide ((s.size:Int)<=300)):=by unfold vr;rw [if_pos h01,hlen];simp [Hid];omega
   clear hlen;rcases h01 with rfl | rfl
   all_goals
    go_enter func74,ntmps74;go_wp2;go_ret;exact ⟨ret_bool (by rw [hV.out]),bA⟩
 by_cases h2:c=2
 · subst h2
   have hV:Hid (vr 2 s.data.toList=num40 s.data.toList):=rfl;clear hlen h01;go_enter func74,ntmps74
   go_wp2_with fail
   refine (c96 _ _ hs).mono ?_;rintro e w1 ⟨rfl,rfl⟩;go_wp2;go_ret;exact ⟨ret_bool (by rw [hV.out]),bA⟩
 by_cases h3:c=3
 · subst h3
   have hV:Hid (vr 3 s.data.toList=s.toList.isEmpty):=by rw [ByteArray.toList_eq];rfl
   clear hlen h01 h2;go_enter func74,ntmps74;go_wp2;go_ret;exact ⟨ret_bool (by rw [hV.out]),bA⟩
 by_cases h4:c=4\/c=5\/c=7
 · have hV:Hid (vr c s.data.toList=nameOk s.data.toList):=by unfold vr;rw [if_neg h01,if_neg h2,if_neg h3,if_pos h4];rfl
   clear hlen h01 h2 h3;rcases h4 with rfl | rfl | rfl
   all_goals
    go_enter func74,ntmps74
    go_wp2_with fail
    refine (c69 _ _ hs).mono ?_;rintro e w1 ⟨rfl,rfl⟩;go_wp2;go_ret;exact ⟨ret_bool (by rw [hV.out]),bA⟩
 have hV:Hid (vr c s.data.toList=false):=by unfold vr;rw [if_neg h01,if_neg h2,if_neg h3,if_neg h4];rfl
 have e0:(c==0)=false:=so_;have e1:(c==1)=false:=so_;have e2:(c==2)=false:=so_;have e3:(c==3)=false:=so_;have e4:(c==4)=false:=so_;have e5:(c==5)=false:=so_;have e7:(c==7)=false:=so_;clear hlen h01 h2 h3 h4;go_enter func74,ntmps74;go_wp2;go_ret;exact ⟨ret_bool (by rw [hV.out]),bA⟩
theorem c85 (c:Int) (s:ByteArray) (w:World) (hs:s.size<=1048700):
 Calls prog 85 #[.agg #[.int .i64 c,.string s]] w fun e w'=>e=.returned (.bool (vr c s.data.toList))/\Below w.heap.size w w':=by
 have hlen:s.data.toList.length=s.size:=sm_;by_cases h300:300<s.size
 · have hV:Hid (vr c s.data.toList=false):=vr_long om_
   clear hlen;go_enter func85,ntmps85;go_wp2;go_ret;exact ⟨ret_bool (by rw [hV.out]),bA⟩
 by_cases h01:c=0\/c=1
 · have hV:Hid (vr c s.data.toList=true):=by unfold vr;rw [if_pos h01,hlen];simp [Hid];omega
   clear hlen;rcases h01 with rfl | rfl
   all_goals
    go_enter func85,ntmps85;go_wp2;go_ret;exact ⟨ret_bool (by rw [hV.out]),bA⟩
 by_cases h2:c=2
 · subst h2
   have hV:Hid (vr 2 s.data.toList=num40 s.data.toList):=rfl;clear hlen h01;go_enter func85,ntmps85
   go_wp2_with fail
   refine (c89 _ _ hs).mono ?_;rintro e w1 ⟨rfl,hb1⟩
   go_wp2_with fail
   refine (c30 _ _ _ _).mono ?_;rintro e w2 ⟨rfl,rfl⟩;go_wp2;go_ret;refine ⟨ret_bool (by rw [hV.out];rw [<- n29_num40];simp),bA.trans (hb1.mono sm_)⟩
 by_cases h3:c=3
 · subst h3
   have hV:Hid (vr 3 s.data.toList=s.toList.isEmpty):=by rw [ByteArray.toList_eq];rfl
   clear hlen h01 h2;go_enter func85,ntmps85;go_wp2;go_ret;exact ⟨ret_bool (by rw [hV.out]),bA⟩
 by_cases h4:c=4\/c=5\/c=7
 · have hV:Hid (vr c s.data.toList=nameOk s.data.toList):=by unfold vr;rw [if_neg h01,if_neg h2,if_neg h3,if_pos h4];rfl
   clear hlen h01 h2 h3;rcases h4 with rfl | rfl | rfl
   all_goals
    go_enter func85,ntmps85
    go_wp2_with fail
    refine (c63 _ _ hs).mono ?_;rintro e w1 ⟨rfl,rfl⟩;go_wp2;go_ret;exact ⟨ret_bool (by rw [hV.out]),bA⟩
 have hV:Hid (vr c s.data.toList=false):=by unfold vr;rw [if_neg h01,if_neg h2,if_neg h3,if_neg h4];rfl
 have e0:(c==0)=false:=so_;have e1:(c==1)=false:=so_;have e2:(c==2)=false:=so_;have e3:(c==3)=false:=so_;have e4:(c==4)=false:=so_;have e5:(c==5)=false:=so_;have e7:(c==7)=false:=so_;clear hlen h01 h2 h3 h4;go_enter func85,ntmps85;go_wp2;go_ret;exact ⟨ret_bool (by rw [hV.out]),bA⟩
structure R2 where
 code:Int
 tx:ByteArray
def r2z:R2:=⟨0,⟨#[]⟩⟩
def ResAt (w:World) (a:Option Addr) (rs:List R2):Prop:=
 rs=[]\/∃ b off,a=some ⟨b,off,none⟩/\b<w.heap.size/\∀ i,i<rs.length->w.cell? ⟨b,off+i*2,none⟩=some (.int .i64 (rs.getD i r2z).code)/\w.cell? ⟨b,off+i*2+1,none⟩=some (.string (rs.getD i r2z).tx)
theorem res_some {w:World} {a:Option Addr} {rs:List R2} (h:ResAt w a rs):∃ b off,(rs=[]\/(a=some ⟨b,off,none⟩/\b<w.heap.size/\∀ i,i<rs.length->w.cell? ⟨b,off+i*2,none⟩=some (.int .i64 (rs.getD i r2z).code)/\w.cell? ⟨b,off+i*2+1,none⟩=some (.string (rs.getD i r2z).tx))):=by
 rcases h with h | ⟨b,off,h⟩
 · exact ⟨0,0,.inl h⟩
 exact ⟨b,off,.inr h⟩
theorem info27:(prog.info? 27).map (fun i=>(i.zero,i.size,i.bytes))=some (some (.agg #[.int .i64 0,.string ⟨#[]⟩]),2,24):=kr_
structure RC where
 p:Value
 v:Value
 hand:ByteArray
 arg:ByteArray
 reps:Value
 looks:Int
 place:Int
 next:Int
 halted:Bool
 over:Bool
 code:Int
 text:ByteArray
 has:Bool
 name:ByteArray
 steps:Int
def RC.cells (r:RC):Array Value:=#[r.p,r.v,.string r.hand,.string r.arg,r.reps,.int .i64 r.looks,.int .i64 r.place,.int .i64 r.next,.bool r.halted,.bool r.over,.int .i64 r.code,.string r.text,.bool r.has,.string r.name,.int .i64 r.steps]
def RunAt (w:World) (b:Nat) (r:RC):Prop:=w.heap[b]?=some (.cells r.cells 144 (0,0))
structure Kp (base b:Nat) (w w':World):Prop where
 os:w'.os=w.os
 tape:w'.tape=w.tape
 output:w'.output=w.output
 size:w.heap.size<=w'.heap.size
 block:∀ k,k<base->k≠b->w'.heap[k]?=w.heap[k]?
theorem Kp.refl (base b:Nat) (w:World):Kp base b w w:=⟨rfl,rfl,rfl,Nat.le_refl _,fun _ _ _=>rfl⟩
theorem Kp.trans {base b:Nat} {u v w:World} (h:Kp base b u v) (k:Kp base b v w):Kp base b u w:=
 ⟨k.os.trans h.os,k.tape.trans h.tape,k.output.trans h.output,Nat.le_trans h.size k.size,fun i hi hne=>(k.block i hi hne).trans (h.block i hi hne)⟩
theorem Kp.of_below {base b:Nat} {w w':World} (h:Below w.heap.size w w') (hle:base<=w.heap.size):Kp base b w w':=⟨h.os,h.tape,h.output,h.size,fun k hk _=>h.block k om_⟩
theorem Kp.of_base {base b:Nat} {w w':World} (h:Below base w w'):Kp base b w w':=⟨h.os,h.tape,h.output,h.size,fun k hk _=>h.block k hk⟩
theorem Kp.set {base b:Nat} {w w':World} (h:Kp base b w w') (j:Nat) (x:Value):Kp base b w (w'.setCell ⟨b,j,none⟩ x):=
 ⟨h.os,h.tape,h.output,by simpa using h.size,fun k hk hne=>by rw [heap_setCell_other w' ⟨b,j,none⟩ k x hne];exact h.block k hk hne⟩
theorem Kp.cell {base b:Nat} {w w':World} (h:Kp base b w w') {p:Addr} (hp:p.block<base) (hne:p.block≠b):w'.cell? p=w.cell? p:=by
 unfold World.cell?;rw [h.block p.block hp hne]
theorem Kp.below {base b B:Nat} {w w':World} (h:Kp base b w w') (hB:B<=b) (hz:B<=base):Below B w w':=⟨h.os,h.tape,h.output,h.size,fun k hk=>h.block k om_ om_⟩
structure St (base b:Nat) (w:World) (r:RC) (out:List UInt8):Prop where
 lt:b<base
 le:base<=w.heap.size
 run:RunAt w b r
 ptr:r.p=.pointer none\/r.p=.pointer (some ⟨b,0,none⟩)
 own:w.ownsRow base 5 1 r.v out.length (Lib.byteCells out)
theorem own_set {w:World} {base b j:Nat} {e:TypeId} {size:Nat} {v x:Value} {n:Nat} {xs:List Value} (h:w.ownsRow base e size v n xs) (hb:b<base):(w.setCell ⟨b,j,none⟩ x).ownsRow base e size v n xs:=by
 obtain ⟨h1,h2⟩:=h;refine ⟨h1,?_⟩;rcases h2 with h | ⟨g,cap,cur,hv,hg,hh,hr⟩
 · exact .inl h
 refine .inr ⟨g,cap,cur,hv,hg,?_,hr⟩;rw [heap_setCell_other w ⟨b,j,none⟩ g x (by show g≠b;omega)];exact hh
theorem run_set {w:World} {b:Nat} {r r':RC} (h:RunAt w b r) (j:Nat) (x:Value) (he:r'.cells=r.cells.setIfInBounds j x):RunAt (w.setCell ⟨b,j,none⟩ x) b r':=by
 unfold RunAt;rw [heap_setCell_same w b j r.cells 144 x h,he]
theorem St.set {base b:Nat} {w:World} {r r':RC} {out:List UInt8} (h:St base b w r out) (j:Nat) (x:Value) (he:r'.cells=r.cells.setIfInBounds j x) (hp:r'.p=r.p) (hv:r'.v=r.v):St base b (w.setCell ⟨b,j,none⟩ x) r' out:=
 ⟨h.lt,by simpa using h.le,run_set h.run j x he,by rw [hp];exact h.ptr,by rw [hv];exact own_set h.own h.lt⟩
theorem St.below {base b:Nat} {w w':World} {r:RC} {out:List UInt8} (h:St base b w r out) (hb:Below w.heap.size w w'):St base b w' r out:=
 ⟨h.lt,Nat.le_trans h.le hb.size,(hb.block b (Nat.lt_of_lt_of_le h.lt h.le)).trans h.run,h.ptr,ownsRow_below h.own hb⟩
theorem run_cell {w:World} {b:Nat} {r:RC} (h:RunAt w b r) (j:Nat):w.cell? ⟨b,j,none⟩=r.cells[j]?:=Lib.cell_of_heap h j
theorem run_free {w:World} {b:Nat} {r:RC} (h:RunAt w b r) (j:Nat):w.frozen? ⟨b,j,none⟩=false:=Lib.frozen_of_heap h j
theorem run_shape {w:World} {b:Nat} {r:RC} (h:RunAt w b r):w.shape? b=some (144,15):=by
 unfold RunAt at h;simp [World.shape?,h,RC.cells]
theorem lies144:liesAt prog prog.depth 144 (15 / prog.cellsOf 144) 0 142 1=true:=kr_
theorem check_fresh94 (b:Nat) (w:World) (h0:w.cell? ⟨b,0,none⟩=some (.pointer none)) (hsh:w.shape? b=some (144,15)) (hfz:w.frozen? ⟨b,0,none⟩=false):
 Calls prog 175 #[.pointer (some ⟨b,0,none⟩)] w fun e w'=>e=.returned (.tuple #[])/\w'=w.setCell ⟨b,0,none⟩ (.pointer (some ⟨b,0,none⟩)):=by
 obtain ⟨j,hj,hjs⟩:=Option.map_eq_some_iff.1 info142;have k1:=Lib.run_to_unsafe (P:=prog) w ⟨b,0,none⟩ underlying140 underlying222 hj (by rw [hjs];decide) hsh (Nat.zero_lt_succ 14);have k3:=Lib.run_from_unsafe (P:=prog) w ⟨b,0,none⟩ underlying222 underlying140 hj hsh lies144;have k2:∀ x,Sem.run prog (callFunc 186 #[x]) w=.ok (.value x) w:=fun x=>by
  rw [run_callFunc_extern func186 kr_ kr_ kr_ (e:=Extern.AbiNoEscape.same) kr_];rw [Lib.run_noEscape];rfl
 go_enter func175,ntmps175;go_wp2
 go_end0
 exact ⟨rfl,rfl⟩
def RC.used (r:RC) (b:Nat):RC:={ r with p:=.pointer (some ⟨b,0,none⟩) }
theorem c175e (base b:Nat) (r:RC) (out:List UInt8) (w:World) (h:St base b w r out):
 Calls prog 175 #[.pointer (some ⟨b,0,none⟩)] w fun e w'=>e=.returned (.tuple #[])/\St base b w' (r.used b) out/\Kp base b w w':=by
 have c0:=run_cell h.run 0;rcases h.ptr with hp | hp
 · refine (check_fresh94 b w (by rw [c0];show some r.p=_;rw [hp]) (run_shape h.run) (run_free h.run 0)).mono ?_
   rintro e w' ⟨rfl,rfl⟩;exact ⟨rfl,⟨h.lt,by simpa using h.le,run_set h.run 0 _ rfl,.inr rfl,own_set h.own h.lt⟩,(Kp.refl _ _ _).set 0 _⟩
 refine (check_used b w (by rw [c0];show some r.p=_;rw [hp])).mono ?_;rintro e w' ⟨rfl,rfl⟩;have hr:r.used b=r:=by
  cases r
  simp only [RC.used] at hp ⊢;rw [hp]
 exact ⟨rfl,by rw [hr];exact h,Kp.refl _ _ _⟩
theorem byteCells_cat (a b:List UInt8):Lib.byteCells a++Lib.byteCells b=Lib.byteCells (a++b):=by simp [Lib.byteCells]
theorem strCells_bytes (s:ByteArray):Lib.strCells s=Lib.byteCells s.data.toList:=by
 first
  | rfl
  | simp [Lib.strCells,Lib.byteCells]
theorem c161e (base b:Nat) (r:RC) (out:List UInt8) (s:ByteArray) (w:World) (h:St base b w r out) (hlen:out.length+s.size<=140737488355328):
 Calls prog 161 #[.pointer (some ⟨b,0,none⟩),.string s] w fun e w'=>e=.returned (.tuple #[.int .i64 s.size,.nilIface])/\(∃ v',St base b w' { r with p:=.pointer (some ⟨b,0,none⟩),v:=v' } (out++s.data.toList))/\Kp base b w w':=by
 obtain ⟨i0,hi,hz0,hz1,hz2⟩:=info_parts info5;have HI:Hid (St base b w r out):=h;clear h;go_enter func161,ntmps161
 go_wp2_with fail
 refine (c175e base b r out w HI.out).mono ?_;rintro e w1 ⟨rfl,⟨hlt,hle,hbk,hpt,hown⟩,hb1⟩;generalize hv:(r.used b).v=v at hown;have HBK:Hid (RunAt w1 b (r.used b)):=hbk;have HV:Hid ((r.used b).v=v):=hv;have c1:w1.cell? ⟨b,1,none⟩=some v:=by rw [run_cell hbk 1,<- hv];rfl
 have HK:Hid (Kp base b w w1):=hb1;have HNE:Hid (v.ownBlock≠some b):=fun e=>by have:=(hown.lt _ e).1;omega
 clear hbk hb1 hv hpt
 go_wp2_with (at_builtin;refine Lib.wpList_append_own_string _ rfl _ _ 22 9 rfl base 5 i0 underlying22 underlying9 hi hz0 hz1 hz2 _ _ _ rfl hown s rfl (by unfold maxLen;omega) om_ hle ?_;intro v' w2 hown' hgrow _;have HB2:Hid (RunAt w2 b (r.used b)):=app_keeps (v:=v) HBK.out HNE.out hgrow;have HG:Hid (Kp base b w w2):=HK.out.trans (Kp.of_base ((Below.refl base w1).grown hgrow hle (fun k hk=>(hown.lt k hk).1)));obtain ⟨ao,cp,rfl⟩:=row_form hown';have d1:w2.cell? ⟨b,1,none⟩=some v:=(by rw [run_cell HB2.out 1,<- HV.out];rfl);have f1:w2.frozen? ⟨b,1,none⟩=false:=run_free HB2.out 1;have hz2:base<=w2.heap.size:=Nat.le_trans hle hgrow.size;clear hgrow)
 go_ret2;refine ⟨rfl,⟨.slice ao (out.length+s.size) cp,hlt,by simpa using hz2,run_set HB2.out 1 _ rfl,.inr rfl,?_⟩,HG.out.set 1 _⟩;have h1:(out++s.data.toList).length=out.length+s.size:=by rw [List.length_append];simp
 rw [h1,<- byteCells_cat,<- strCells_bytes];exact own_set hown' hlt
theorem c166e (base b:Nat) (r:RC) (out:List UInt8) (w:World) (h:St base b w r out):
 Calls prog 166 #[.pointer (some ⟨b,0,none⟩)] w fun e w'=>e=.returned (.int .i64 out.length)/\w'=w:=by
 obtain ⟨ao,cp,hv⟩:=row_form h.own;have c1:w.cell? ⟨b,1,none⟩=some (.slice ao out.length cp):=by rw [run_cell h.run 1,<- hv];rfl
 clear h hv;go_enter func166,ntmps166;go_wp2;go_ret;exact ⟨rfl,rfl⟩
def RC.fin (r:RC) (c:Int) (t:ByteArray):RC:={ r with halted:=true,over:=true,code:=c,text:=t }
def RC.stop (r:RC) (h:Bool):RC:={ r with halted:=true,has:=h,name:=r.hand }
def RC.looked (r:RC) (k:Int):RC:={ r with looks:=k }
theorem Kp.alloc {base b:Nat} {w w':World} (h:Kp base b w w') (hle:base<=w'.heap.size) (o:Obj):Kp base b w (w'.alloc o):=h.trans (Kp.of_below ((Below.refl _ _).alloc lr_ o) hle)
theorem Kp.drew {base b:Nat} {w w':World} (h:Kp base b w w'):Kp base b w w'.drew:=⟨h.os,h.tape,h.output,h.size,h.block⟩
theorem run_alloc {w:World} {b:Nat} {r:RC} (h:RunAt w b r) (o:Obj):RunAt (w.alloc o) b r:=(Below.heap_alloc w o b (blk_lt h)).trans h
theorem run_below {w w':World} {b:Nat} {r:RC} (h:RunAt w b r) (hb:Below w.heap.size w w'):RunAt w' b r:=(hb.block b (blk_lt h)).trans h
theorem run_lt {w:World} {b:Nat} {r:RC} (h:RunAt w b r):b<w.heap.size:=blk_lt h
theorem c116 (base b:Nat) (r:RC) (c:Int) (t:ByteArray) (w:World) (h:RunAt w b r):
 Calls prog 116 #[.pointer (some ⟨b,0,none⟩),.int .i64 c,.string t] w fun e w'=>e=.returned (.tuple #[])/\RunAt w' b (r.fin c t)/\Kp base b w w':=by
 have HR:Hid (RunAt w b r):=h;have hlt:=run_lt h;have c43:w.cell? ⟨b,8,none⟩=some (.bool r.halted):=run_cell h 8;have cx9:w.cell? ⟨b,9,none⟩=some (.bool r.over):=run_cell h 9;have cx10:w.cell? ⟨b,10,none⟩=some (.int .i64 r.code):=run_cell h 10;have cx11:w.cell? ⟨b,11,none⟩=some (.string r.text):=run_cell h 11;have f8:=run_free h 8;have f9:=run_free h 9;have f10:=run_free h 10;have f11:=run_free h 11;clear h;go_enter func116,ntmps116;go_wp2
 go_end0
 refine ⟨rfl,?_,((((Kp.refl base b w).set 8 _).set 9 _).set 10 _).set 11 _⟩;unfold RunAt;rw [heap_setCell_same _ b 11 _ 144 _ (heap_setCell_same _ b 10 _ 144 _ (heap_setCell_same _ b 9 _ 144 _ (heap_setCell_same _ b 8 _ 144 _ HR.out)))];rfl
theorem c179 (base b:Nat) (r:RC) (hs:Bool) (w:World) (h:RunAt w b r):
 Calls prog 179 #[.pointer (some ⟨b,0,none⟩),.bool hs] w fun e w'=>e=.returned (.tuple #[])/\RunAt w' b (r.stop hs)/\Kp base b w w':=by
 have HR:Hid (RunAt w b r):=h;have hlt:=run_lt h;have c2:w.cell? ⟨b,2,none⟩=some (.string r.hand):=run_cell h 2;have c43:w.cell? ⟨b,8,none⟩=some (.bool r.halted):=run_cell h 8;have c58:w.cell? ⟨b,12,none⟩=some (.bool r.has):=run_cell h 12;have c72:w.cell? ⟨b,13,none⟩=some (.string r.name):=run_cell h 13;have f8:=run_free h 8;have f12:=run_free h 12;have f13:=run_free h 13;clear h;go_enter func179,ntmps179;go_wp2
 go_end0
 refine ⟨rfl,?_,(((Kp.refl base b w).set 8 _).set 12 _).set 13 _⟩;unfold RunAt;rw [heap_setCell_same _ b 13 _ 144 _ (heap_setCell_same _ b 12 _ 144 _ (heap_setCell_same _ b 8 _ 144 _ HR.out))];rfl
theorem c115 (base b:Nat) (r:RC) (n:Nat) (w:World) (h:RunAt w b r) (hn:r.place=n) (hs:n<100):
 Calls prog 115 #[.pointer (some ⟨b,0,none⟩)] w fun e w'=>e=.returned (.tuple #[])/\RunAt w' b (r.fin 2 (ofL (Lib.decDigits n)))/\Kp base b w w':=by
 have HR:Hid (RunAt w b r):=h;have cx6:w.cell? ⟨b,6,none⟩=some (.int .i64 n):=by rw [<- hn];exact run_cell h 6
 clear h;go_enter func115,ntmps115
 go_wp2_with fail
 refine (Tryz.strconv_Itoa_small n hs w).mono ?_;rintro e w1 ⟨rfl,hw⟩;obtain rfl:=hw.symm
 go_wp2_with fail
 refine (c116 base b r 2 (ofL (Lib.decDigits n)) w HR.out).mono ?_;rintro e w2 ⟨rfl,h2,hk⟩;have H2:Hid (RunAt w2 b (r.fin 2 (ofL (Lib.decDigits n)))):=h2;clear h2;go_wp2
 go_end0
 exact ⟨rfl,H2.out,hk⟩
theorem c155e (base b:Nat) (r:RC) (out:List UInt8) (w:World) (h:St base b w r out):
 Calls prog 155 #[.pointer (some ⟨b,0,none⟩)] w fun e w'=>e=.returned (.string (ofL out))/\RunAt w' b r/\Kp base b w w':=by
 have hUN:∀ (W:World) (q:Option Addr),(Builtin.unsafeString_ #[212,3] 9 #[.pointer q,.int .i64 0]).run prog W=.ok (.string .empty) W:=fun W q=>Lib.run_unsafeString_none W _ _ _ q;have HR:Hid (RunAt w b r):=h.run;have hlt:=h.lt;have hle:=h.le;by_cases h0:out=[];rotate_left
 · have hl0:out.length≠0:=by simpa using h0
   have hown:=h.own;rcases h.own.2 with ⟨_,hz⟩ | ⟨g,cap,cur,hv,hg,hh,hnc,hcm,hcs,htake⟩
   · exact absurd hz hl0
   rw [hv] at hown;have c1:w.drew.cell? ⟨b,1,none⟩=some (.slice (some ⟨g,0,none⟩) out.length cap):=by
    show w.cell? ⟨b,1,none⟩=_;rw [run_cell h.run 1];exact congrArg some hv
   have hSD:(Builtin.unsafeSliceData_ #[22] 212 #[.slice (some ⟨g,0,none⟩) out.length cap]).run prog w.drew=.ok (.pointer (some ⟨g,0,none⟩)) w.drew:=
    Lib.run_unsafeSliceData_row _ _ _ _ _ _ om_
   have hUS:(Builtin.unsafeString_ #[212,3] 9 #[.pointer (some ⟨g,0,none⟩),.int .i64 out.length]).run prog w.drew=.ok (.string ⟨out.toArray⟩) (w.drew.freeze ⟨g,0,none⟩ out.length):=by
    refine Lib.run_unsafeString_row w.drew 212 3 9 5 underlying212 kr_ g cur.size (by have hg':w.drew.heap[g]?=some (.cells cur 5 (0,0)):=hh;simp [World.shape?,hg']) out h0 om_ (by unfold maxLen at hcm;omega) ?_;intro j x hx;exact hown.cells (g:=g) rfl j (.int .u8 x.toNat) (by simp [Lib.byteCells,hx])
   have HB:Hid (Below base w (w.drew.freeze ⟨g,0,none⟩ out.length)):=Lib.below_freeze (Below.drew (Below.refl base w)) (p:=⟨g,0,none⟩) hg _;clear h hown htake hcs hcm hnc hh hl0 h0 hUN;go_enter func155,ntmps155;go_wp2
   go_region
   all_goals (go_wp2;go_ret;exact ⟨rfl,(HB.out.block b hlt).trans HR.out,Kp.of_base HB.out⟩)
 subst h0;rcases h.own.2 with ⟨hv,_⟩ | ⟨g,cap,cur,hv,hg,hh,hnc,hcm,hcs,htake⟩
 · have c1:w.drew.cell? ⟨b,1,none⟩=some (.slice none 0 0):=by
    show w.cell? ⟨b,1,none⟩=_;rw [run_cell h.run 1,<- hv];rfl
   have hSD:(Builtin.unsafeSliceData_ #[22] 212 #[.slice none 0 0]).run prog w.drew=.ok (.pointer none) w.drew:=rfl;clear h;go_enter func155,ntmps155;go_wp2
   go_region
   all_goals (go_wp2;go_ret;exact ⟨rfl,HR.out,(Kp.refl base b w).drew⟩)
 by_cases hc0:cap=0
 · subst hc0
   have hw1:w.cell? ⟨b,1,none⟩=some (.slice (some ⟨g,0,none⟩) 0 0):=by rw [run_cell h.run 1];exact congrArg some hv
   have c1:w.drew.cell? ⟨b,1,none⟩=some (.slice (some ⟨g,0,none⟩) 0 0):=hw1;have hSD:(Builtin.unsafeSliceData_ #[22] 212 #[.slice (some ⟨g,0,none⟩) 0 0]).run prog w.drew=.ok (.pointer (some ⟨w.drew.heap.size,0,none⟩)) (w.drew.alloc (.view ⟨g,0,none⟩ 5)):=
    Lib.run_unsafeSliceData_zero w.drew _ _ 5 underlying212 ⟨g,0,none⟩ 0 (5,cur.size) (by have hg':w.drew.heap[g]?=some (.cells cur 5 (0,0)):=hh;simp [World.shape?,hg'])
   have hlt2:b<w.heap.size:=run_lt h.run;have c2:(w.drew.alloc (.view ⟨g,0,none⟩ 5)).cell? ⟨b,1,none⟩=some (.slice (some ⟨g,0,none⟩) 0 0):=by
    have:(w.drew.alloc (.view ⟨g,0,none⟩ 5)).heap[b]?=_:=(Lib.alloc_old w.drew _ b hlt2).trans h.run;rw [Lib.cell_of_heap this];exact congrArg some hv
   have cx3:(w.alloc (.view ⟨g,0,none⟩ 5)).drew.cell? ⟨b,1,none⟩=some (.slice (some ⟨g,0,none⟩) 0 0):=c2;clear h;go_enter func155,ntmps155;go_wp2
   go_region
   all_goals (go_wp2;go_ret;exact ⟨rfl,run_alloc (w:=w.drew) HR.out _,(Kp.refl base b w).drew.alloc hle _⟩)
 have c1:w.drew.cell? ⟨b,1,none⟩=some (.slice (some ⟨g,0,none⟩) 0 cap):=by
  show w.cell? ⟨b,1,none⟩=_;rw [run_cell h.run 1];exact congrArg some hv
 have hSD:(Builtin.unsafeSliceData_ #[22] 212 #[.slice (some ⟨g,0,none⟩) 0 cap]).run prog w.drew=.ok (.pointer (some ⟨g,0,none⟩)) w.drew:=
  Lib.run_unsafeSliceData_row _ _ _ _ _ _ hc0
 clear h hc0;go_enter func155,ntmps155;go_wp2
 go_region
 all_goals (go_wp2;go_ret;exact ⟨rfl,HR.out,(Kp.refl base b w).drew⟩)
theorem Kp.mono {base base' b:Nat} {w w':World} (h:Kp base' b w w') (hle:base<=base'):Kp base b w w':=⟨h.os,h.tape,h.output,h.size,fun k hk hne=>h.block k om_ hne⟩
theorem Kp.free {base b:Nat} {w w':World} (h:Kp base b w w') {p:Addr} (hp:p.block<base) (hne:p.block≠b):w'.frozen? p=w.frozen? p:=by
 unfold World.frozen?;rw [h.block p.block hp hne]
def z42:Obj:=.cells #[.int .i64 0,.string ⟨#[]⟩] 27
theorem res_kept {w w2:World} {b:Nat} (hb:b<w.heap.size) (hk:Kp (w.heap.size+1) b (w.alloc z42) w2):
 (w2.cell? ⟨w.heap.size,0,none⟩=some (.int .i64 0)/\w2.cell? ⟨w.heap.size,1,none⟩=some (.string ⟨#[]⟩))/\w2.frozen? ⟨w.heap.size,0,none⟩=false/\w2.frozen? ⟨w.heap.size,1,none⟩=false:=by
 have e:∀ j,w2.cell? ⟨w.heap.size,j,none⟩=(w.alloc z42).cell? ⟨w.heap.size,j,none⟩:=fun j=>hk.cell sm_ so_;have f:∀ j,w2.frozen? ⟨w.heap.size,j,none⟩=(w.alloc z42).frozen? ⟨w.heap.size,j,none⟩:=fun j=>hk.free sm_ so_;rw [e,e,f,f];unfold z42;simp
theorem c165a (b:Nat) (r:RC) (hs:Bool) (w:World) (h:RunAt w b r) (hh:r.hand.size<=300) (hn:nameOk r.hand.data.toList=false):
 Calls prog 165 #[.pointer (some ⟨b,0,none⟩),.bool hs] w fun e w'=>e=.returned (.tuple #[.agg #[.int .i64 0,.string ⟨#[]⟩],.bool false])/\RunAt w' b (r.fin 4 ⟨#[63]⟩)/\Kp w.heap.size b w w':=by
 have HR:Hid (RunAt (w.alloc z42) b r):=run_alloc h _;have c2:w.cell? ⟨b,2,none⟩=some (.string r.hand):=run_cell h 2;have hlt:=run_lt h;have hle:w.heap.size<=w.heap.size:=Nat.le_refl _;have HN:Hid (nameOk r.hand.data.toList=false):=hn;have HA:Hid (Kp w.heap.size b w (w.alloc z42)):=(Kp.refl _ b w).alloc hle _;clear h hn;go_enter func165,ntmps165
 go_wp2_with fail
 refine (c69 r.hand _ om_).mono ?_;rintro e w1 ⟨rfl,rfl⟩;rw [HN.out]
 go_wp2_with fail
 refine (c116 (w.heap.size+1) b r 4 ⟨#[63]⟩ _ HR.out).mono ?_;rintro e w2 ⟨rfl,h2,hk0⟩;have hk:Kp (w.heap.size+1) b (w.alloc z42) w2:=hk0;obtain ⟨⟨q0,q1⟩,g0,g1⟩:=res_kept hlt hk;have H2:Hid (RunAt w2 b (r.fin 4 ⟨#[63]⟩)):=h2;have HK:Hid (Kp w.heap.size b w w2):=HA.out.trans (hk.mono om_);have e00:=World.cell?_setCell_same w2 ⟨w.heap.size,0,none⟩ (.int .i64 0) q0;obtain ⟨e0,e1⟩:=set2_at w2 w.heap.size 0 (.int .i64 0) (.string ⟨#[]⟩) _ _ q0 q1;clear e0;clear h2 hk hk0;go_wp2;have hne:b≠w.heap.size:=om_;refine bodyPost_ret (v:=.tuple #[.agg #[.int .i64 0,.string ⟨#[]⟩],.bool false]) (by simp [results,Tryz.results165,go_sem,e00,e1]) rfl ⟨rfl,?_,?_⟩
 · unfold RunAt
   rw [heap_setCell_other _ _ _ _ (by exact hne),heap_setCell_other _ _ _ _ (by exact hne)];exact H2.out
 exact HK.out.trans (Kp.of_base (((Below.refl w.heap.size _).setCell (by exact hle) _).setCell (by exact hle) _))
theorem c165b (b:Nat) (r:RC) (hs:Bool) (w:World) (h:RunAt w b r) (hh:r.hand.size<=300) (hn:nameOk r.hand.data.toList=true) (hl:r.looks=14):
 Calls prog 165 #[.pointer (some ⟨b,0,none⟩),.bool hs] w fun e w'=>e=.returned (.tuple #[.agg #[.int .i64 0,.string ⟨#[]⟩],.bool false])/\RunAt w' b (r.fin 3 ⟨#[]⟩)/\Kp w.heap.size b w w':=by
 have HR:Hid (RunAt (w.alloc z42) b r):=run_alloc h _;have c2:w.cell? ⟨b,2,none⟩=some (.string r.hand):=run_cell h 2;have cx5:w.cell? ⟨b,5,none⟩=some (.int .i64 14):=by rw [<- hl];exact run_cell h 5
 have hlt:=run_lt h;have hle:w.heap.size<=w.heap.size:=Nat.le_refl _;have HN:Hid (nameOk r.hand.data.toList=true):=hn;have HA:Hid (Kp w.heap.size b w (w.alloc z42)):=(Kp.refl _ b w).alloc hle _;clear h hn;go_enter func165,ntmps165
 go_wp2_with fail
 refine (c69 r.hand _ om_).mono ?_;rintro e w1 ⟨rfl,rfl⟩;rw [HN.out]
 go_wp2_with fail
 refine (c116 (w.heap.size+1) b r 3 ⟨#[]⟩ _ HR.out).mono ?_;rintro e w2 ⟨rfl,h2,hk0⟩;have hk:Kp (w.heap.size+1) b (w.alloc z42) w2:=hk0;obtain ⟨⟨q0,q1⟩,g0,g1⟩:=res_kept hlt hk;have H2:Hid (RunAt w2 b (r.fin 3 ⟨#[]⟩)):=h2;have HK:Hid (Kp w.heap.size b w w2):=HA.out.trans (hk.mono om_);have e00:=World.cell?_setCell_same w2 ⟨w.heap.size,0,none⟩ (.int .i64 0) q0;obtain ⟨e0,e1⟩:=set2_at w2 w.heap.size 0 (.int .i64 0) (.string ⟨#[]⟩) _ _ q0 q1;clear e0;clear h2 hk hk0;go_wp2;have hne:b≠w.heap.size:=om_;refine bodyPost_ret (v:=.tuple #[.agg #[.int .i64 0,.string ⟨#[]⟩],.bool false]) (by simp [results,Tryz.results165,go_sem,e00,e1]) rfl ⟨rfl,?_,?_⟩
 · unfold RunAt
   rw [heap_setCell_other _ _ _ _ (by exact hne),heap_setCell_other _ _ _ _ (by exact hne)];exact H2.out
 exact HK.out.trans (Kp.of_base (((Below.refl w.heap.size _).setCell (by exact hle) _).setCell (by exact hle) _))
theorem c165c (b:Nat) (r:RC) (hs:Bool) (w:World) (h:RunAt w b r) (hh:r.hand.size<=300) (hn:nameOk r.hand.data.toList=true) (a:Option Addr) (n cap:Nat) (hl:r.looks=n) (hl2:n<14) (hrs:r.reps=.slice a n cap):
 Calls prog 165 #[.pointer (some ⟨b,0,none⟩),.bool hs] w fun e w'=>e=.returned (.tuple #[.agg #[.int .i64 0,.string ⟨#[]⟩],.bool false])/\RunAt w' b (r.stop hs)/\Kp w.heap.size b w w':=by
 have HR:Hid (RunAt (w.alloc z42) b r):=run_alloc h _;have c2:w.cell? ⟨b,2,none⟩=some (.string r.hand):=run_cell h 2;have cx5:w.cell? ⟨b,5,none⟩=some (.int .i64 n):=by rw [<- hl];exact run_cell h 5
 have cx4:w.cell? ⟨b,4,none⟩=some (.slice a n cap):=by rw [run_cell h 4,<- hrs];rfl
 have hlt:=run_lt h;have hle:w.heap.size<=w.heap.size:=Nat.le_refl _;have HN:Hid (nameOk r.hand.data.toList=true):=hn;have HA:Hid (Kp w.heap.size b w (w.alloc z42)):=(Kp.refl _ b w).alloc hle _;clear h hn;go_enter func165,ntmps165
 go_wp2_with fail
 refine (c69 r.hand _ om_).mono ?_;rintro e w1 ⟨rfl,rfl⟩;rw [HN.out]
 go_wp2_with fail
 go_region
 go_wp2_with fail
 refine (c179 (w.heap.size+1) b r hs (w.alloc z42).drew HR.out).mono ?_;rintro e w2 ⟨rfl,h2,hk0⟩;have hk:Kp (w.heap.size+1) b (w.alloc z42) w2:=(Kp.refl _ b (w.alloc z42)).drew.trans hk0;obtain ⟨⟨q0,q1⟩,g0,g1⟩:=res_kept hlt hk;have H2:Hid (RunAt w2 b (r.stop hs)):=h2;have HK:Hid (Kp w.heap.size b w w2):=HA.out.trans (hk.mono om_);have e00:=World.cell?_setCell_same w2 ⟨w.heap.size,0,none⟩ (.int .i64 0) q0;obtain ⟨e0,e1⟩:=set2_at w2 w.heap.size 0 (.int .i64 0) (.string ⟨#[]⟩) _ _ q0 q1;clear e0;clear h2 hk hk0;go_wp2;have hne:b≠w.heap.size:=om_;refine bodyPost_ret (v:=.tuple #[.agg #[.int .i64 0,.string ⟨#[]⟩],.bool false]) (by simp [results,Tryz.results165,go_sem,e00,e1]) rfl ⟨rfl,?_,?_⟩
 · unfold RunAt
   rw [heap_setCell_other _ _ _ _ (by exact hne),heap_setCell_other _ _ _ _ (by exact hne)];exact H2.out
 exact HK.out.trans (Kp.of_base (((Below.refl w.heap.size _).setCell (by exact hle) _).setCell (by exact hle) _))
theorem St.kp {base b:Nat} {w w':World} {r r':RC} {out:List UInt8} (h:St base b w r out) (hk:Kp w.heap.size b w w') (hr:RunAt w' b r') (hp:r'.p=r.p) (hv:r'.v=r.v):St base b w' r' out:=by
 refine ⟨h.lt,Nat.le_trans h.le hk.size,hr,by rw [hp];exact h.ptr,?_⟩;rw [hv];obtain ⟨h1,h2⟩:=h.own;refine ⟨h1,?_⟩;rcases h2 with h2 | ⟨g,cap,cur,hv,hg,hh,hr⟩
 · exact .inl h2
 refine .inr ⟨g,cap,cur,hv,hg,?_,hr⟩;have:=h.lt;rw [hk.block g (blk_lt hh) om_];exact hh
theorem c165d (b:Nat) (r:RC) (hs:Bool) (w:World) (h:RunAt w b r) (hh:r.hand.size<=300) (hn:nameOk r.hand.data.toList=true) (ba off n cap k:Nat) (x:R2) (hl:r.looks=k) (hl2:k<14) (hkn:k<n) (hrs:r.reps=.slice (some ⟨ba,off,none⟩) n cap) (_hn14:n<=14) (hba:ba<w.heap.size)
 (x0:w.cell? ⟨ba,off+k*2,none⟩=some (.int .i64 x.code)) (x1:w.cell? ⟨ba,off+k*2+1,none⟩=some (.string x.tx)):
 Calls prog 165 #[.pointer (some ⟨b,0,none⟩),.bool hs] w fun e w'=>e=.returned (.tuple #[.agg #[.int .i64 x.code,.string x.tx],.bool true])/\RunAt w' b (r.looked (k+1))/\Kp w.heap.size b w w':=by
 have HR:Hid (RunAt w b r):=h;have c2:w.cell? ⟨b,2,none⟩=some (.string r.hand):=run_cell h 2;have cx5:w.cell? ⟨b,5,none⟩=some (.int .i64 k):=by rw [<- hl];exact run_cell h 5
 have cx4:w.cell? ⟨b,4,none⟩=some (.slice (some ⟨ba,off,none⟩) n cap):=by rw [run_cell h 4,<- hrs];rfl
 have f5:=run_free h 5;have hlt:=run_lt h;have hle:w.heap.size<=w.heap.size:=Nat.le_refl _;have HN:Hid (nameOk r.hand.data.toList=true):=hn;clear h hn;go_enter func165,ntmps165
 go_wp2_with fail
 refine (c69 r.hand _ om_).mono ?_;rintro e w1 ⟨rfl,rfl⟩;rw [HN.out]
 go_wp2_with fail
 go_region
 go_wp2_with fail
 go_region
 go_wp2;refine bodyPost_ret (v:=.tuple #[.agg #[.int .i64 x.code,.string x.tx],.bool true]) (by simp [results,Tryz.results165,go_sem]) rfl ⟨rfl,?_,?_⟩
 · have h1:RunAt (w.setCell ⟨b,5,none⟩ (.int .i64 ((k:Int)+1))) b (r.looked (k+1)):=run_set HR.out 5 _ rfl
   exact run_below h1 ((bA.alloc sm_ _).drew.drew)
 exact ((((Kp.refl w.heap.size b w).set 5 _).alloc sm_ _).alloc sm_ _).drew.drew
def met (b:Nat) (f:Nat):Value:=.func (.func f) #[.pointer (some ⟨b,0,none⟩)] #[]
theorem c114 (b:Nat) (w:World):
 Calls prog 114 #[.pointer (some ⟨b,0,none⟩)] w fun e w'=>e=.returned (.agg #[.nilFunc,met b 138,met b 139,met b 140,met b 141,met b 142,met b 143,met b 144,met b 145,met b 146,met b 147,met b 148])/\Below w.heap.size w w':=by
 have hsn:∀ (w:World) (a:Addr) (m:Mode),(store a .nilFunc m).run prog w=stored prog w a .nilFunc m:=fun w a m=>run_store _ _ _ _ _ rfl;have hsf:∀ (w:World) (a:Addr) (f:Fn) (x y:Array Value) (m:Mode),(store a (.func f x y) m).run prog w=stored prog w a (.func f x y) m:=fun w a f x y m=>run_store _ _ _ _ _ rfl;go_enter func114,ntmps114;go_wp2;refine bodyPost_ret (v:=.agg #[.nilFunc,met b 138,met b 139,met b 140,met b 141,met b 142,met b 143,met b 144,met b 145,met b 146,met b 147,met b 148]) (by simp [results,Tryz.results114,go_sem,met]) rfl ⟨rfl,bA⟩
end Go.Proofs.YthjhakdpikdoeaaGreatDoor
