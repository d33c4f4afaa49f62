import Derived.Test.YtdjaajjndfbpmaaGreatDoorRA
set_option linter.unusedVariables false
set_option maxHeartbeats 8000000
set_option maxRecDepth 100000
namespace Go.Proofs.YtdjaajjndfbpmaaGreatDoor
open Proofs.Tryz
open Go.RowKit
theorem VO (c:Int) (s:ByteArray) (w:World) (g:s.size<=1048700):
 Calls prog 144 #[.agg #[.int .i64 c,.string s]] w fun e w'=>e=.returned (.bool (vr c s.data.toList))/\Below w.heap.size w w':=by
 have d:s.data.toList.length=s.size:=X0;by_cases b:c=0\/c=1
 · have a:Hid (vr c s.data.toList=decide ((s.size:Int)<=300)):=by unfold vr;rw [if_pos b,d];simp [Hid];omega
   clear d;rcases b with rfl | rfl
   all_goals
    go_enter func144,ntmps144;go_wp2;go_ret;exact ⟨Y4 (by rw [a.out]),bA⟩
 by_cases h2:c=2
 · subst h2
   have a:Hid (vr 2 s.data.toList=Q8 s.data.toList):=rfl;clear d b;go_enter func144,ntmps144
   go_wp2_with fail
   refine (WN _ _ g).mono ?_;rintro e w1 ⟨rfl,rfl⟩;go_wp2;go_ret;exact ⟨Y4 (by rw [a.out]),bA⟩
 by_cases h3:c=3
 · subst h3
   have a:Hid (vr 3 s.data.toList=s.toList.isEmpty):=by rw [I7];rfl
   clear d b h2;go_enter func144,ntmps144;go_wp2;go_ret;exact ⟨Y4 (by rw [a.out]),bA⟩
 by_cases f:c=4\/c=5\/c=7
 · have a:Hid (vr c s.data.toList=J2 s.data.toList):=by unfold vr;rw [if_neg b,if_neg h2,if_neg h3,if_pos f];rfl
   clear d b h2 h3;rcases f with rfl | rfl | rfl
   all_goals
    go_enter func144,ntmps144
    go_wp2_with fail
    refine (c19 _ _ g).mono ?_;rintro e w1 ⟨rfl,rfl⟩;go_wp2;go_ret;exact ⟨Y4 (by rw [a.out]),bA⟩
 have a:Hid (vr c s.data.toList=false):=by unfold vr;rw [if_neg b,if_neg h2,if_neg h3,if_neg f];rfl
 have e0:(c==0)=false:=J4;have e1:(c==1)=false:=J4;have e2:(c==2)=false:=J4;have e3:(c==3)=false:=J4;have e4:(c==4)=false:=J4;have e5:(c==5)=false:=J4;have e7:(c==7)=false:=J4;clear d b h2 h3 f;go_enter func144,ntmps144;go_wp2;go_ret;exact ⟨Y4 (by rw [a.out]),bA⟩
theorem c148 (c:Int) (s:ByteArray) (w:World) (g:s.size<=1048700):
 Calls prog 148 #[.agg #[.int .i64 c,.string s]] w fun e w'=>e=.returned (.bool (vr c s.data.toList))/\Below w.heap.size w w':=by
 have d:s.data.toList.length=s.size:=X0;by_cases xR:300<s.size
 · have a:Hid (vr c s.data.toList=false):=Rv O0
   clear d;go_enter func148,ntmps148;go_wp2;go_ret;exact ⟨Y4 (by rw [a.out]),bA⟩
 by_cases b:c=0\/c=1
 · have a:Hid (vr c s.data.toList=true):=by unfold vr;rw [if_pos b,d];simp [Hid];omega
   clear d;rcases b with rfl | rfl
   all_goals
    go_enter func148,ntmps148;go_wp2;go_ret;exact ⟨Y4 (by rw [a.out]),bA⟩
 by_cases h2:c=2
 · subst h2
   have a:Hid (vr 2 s.data.toList=Q8 s.data.toList):=rfl;clear d b;go_enter func148,ntmps148
   go_wp2_with fail
   refine (dI _ _ g).mono ?_;rintro e w1 ⟨rfl,h⟩
   go_wp2_with fail
   refine (vH _ _ _ _).mono ?_;rintro e w2 ⟨rfl,rfl⟩;go_wp2;go_ret;refine ⟨Y4 (by rw [a.out];rw [<- Ut];simp),bA.trans (h.mono X0)⟩
 by_cases h3:c=3
 · subst h3
   have a:Hid (vr 3 s.data.toList=s.toList.isEmpty):=by rw [I7];rfl
   clear d b h2;go_enter func148,ntmps148;go_wp2;go_ret;exact ⟨Y4 (by rw [a.out]),bA⟩
 by_cases f:c=4\/c=5\/c=7
 · have a:Hid (vr c s.data.toList=J2 s.data.toList):=by unfold vr;rw [if_neg b,if_neg h2,if_neg h3,if_pos f];rfl
   clear d b h2 h3;rcases f with rfl | rfl | rfl
   all_goals
    go_enter func148,ntmps148
    go_wp2_with fail
    refine (c24 _ _ g).mono ?_;rintro e w1 ⟨rfl,rfl⟩;go_wp2;go_ret;exact ⟨Y4 (by rw [a.out]),bA⟩
 have a:Hid (vr c s.data.toList=false):=by unfold vr;rw [if_neg b,if_neg h2,if_neg h3,if_neg f];rfl
 have e0:(c==0)=false:=J4;have e1:(c==1)=false:=J4;have e2:(c==2)=false:=J4;have e3:(c==3)=false:=J4;have e4:(c==4)=false:=J4;have e5:(c==5)=false:=J4;have e7:(c==7)=false:=J4;clear d b h2 h3 f;go_enter func148,ntmps148;go_wp2;go_ret;exact ⟨Y4 (by rw [a.out]),bA⟩
structure R2 where
 code:Int
 tx:ByteArray
def Jc:R2:=⟨0,⟨#[]⟩⟩
def ui (w:World) (a:Option Addr) (rs:List R2):Prop:=
 rs=[]\/∃ b off,a=some ⟨b,off,none⟩/\b<w.heap.size/\∀ i,i<rs.length->w.cell? ⟨b,off+i*2,none⟩=some (.int .i64 (rs.getD i Jc).code)/\w.cell? ⟨b,off+i*2+1,none⟩=some (.string (rs.getD i Jc).tx)
theorem Ny {w:World} {a:Option Addr} {rs:List R2} (h:ui w a rs):∃ b c,(rs=[]\/(a=some ⟨b,c,none⟩/\b<w.heap.size/\∀ i,i<rs.length->w.cell? ⟨b,c+i*2,none⟩=some (.int .i64 (rs.getD i Jc).code)/\w.cell? ⟨b,c+i*2+1,none⟩=some (.string (rs.getD i Jc).tx))):=by
 rcases h with h | ⟨b,c,h⟩
 · exact ⟨0,0,.inl h⟩
 exact ⟨b,c,.inr h⟩
theorem IG:(prog.info? 34).map (fun i=>(i.zero,i.size,i.bytes))=some (some (.agg #[.int .i64 0,.string ⟨#[]⟩]),2,24):=U2
structure RC where
 p:Value
 v:Value
 hand:ByteArray
 arg:ByteArray
 nR:Value
 looks:Int
 place:Int
 next:Int
 halted:Bool
 over:Bool
 code:Int
 text:ByteArray
 has:Bool
 name:ByteArray
 steps:Int
def RC.cells (r:RC):Array Value:=#[r.p,r.v,.string r.hand,.string r.arg,r.nR,.int .i64 r.looks,.int .i64 r.place,.int .i64 r.next,.bool r.halted,.bool r.over,.int .i64 r.code,.string r.text,.bool r.has,.string r.name,.int .i64 r.steps]
def E5 (w:World) (b:Nat) (r:RC):Prop:=w.heap[b]?=some (.cells r.cells 225 (0,0))
structure Kp (base b:Nat) (w w':World):Prop where
 os:w'.os=w.os
 tape:w'.tape=w.tape
 output:w'.output=w.output
 size:w.heap.size<=w'.heap.size
 block:∀ k,k<base->k≠b->w'.heap[k]?=w.heap[k]?
theorem Kp.refl (base b:Nat) (w:World):Kp base b w w:=⟨rfl,rfl,rfl,Q6 _,fun _ _ _=>rfl⟩
theorem Kp.trans {base b:Nat} {u v w:World} (h:Kp base b u v) (k:Kp base b v w):Kp base b u w:=
 ⟨k.os.trans h.os,k.tape.trans h.tape,k.output.trans h.output,Z4 h.size k.size,fun i c a=>(k.block i c a).trans (h.block i c a)⟩
theorem Kp.of_below {base b:Nat} {w w':World} (h:Below w.heap.size w w') (hle:base<=w.heap.size):Kp base b w w':=⟨h.os,h.tape,h.output,h.size,fun k hk _=>h.block k O0⟩
theorem Kp.gm {base b:Nat} {w w':World} (h:Below base w w'):Kp base b w w':=⟨h.os,h.tape,h.output,h.size,fun k a _=>h.block k a⟩
theorem Kp.set {base b:Nat} {w w':World} (h:Kp base b w w') (j:Nat) (x:Value):Kp base b w (w'.setCell ⟨b,j,none⟩ x):=
 ⟨h.os,h.tape,h.output,by simpa using h.size,fun k c a=>by rw [Z8 w' ⟨b,j,none⟩ k x a];exact h.block k c a⟩
theorem Kp.cell {base b:Nat} {w w':World} (h:Kp base b w w') {p:Addr} (a:p.block<base) (c:p.block≠b):w'.cell? p=w.cell? p:=by
 unfold World.cell?;rw [h.block p.block a c]
theorem Kp.below {base b B:Nat} {w w':World} (h:Kp base b w w') (hB:B<=b) (hz:B<=base):Below B w w':=⟨h.os,h.tape,h.output,h.size,fun k hk=>h.block k O0 O0⟩
structure St (base b:Nat) (w:World) (r:RC) (out:List UInt8):Prop where
 lt:b<base
 le:base<=w.heap.size
 run:E5 w b r
 ptr:r.p=.pointer none\/r.p=.pointer (some ⟨b,0,none⟩)
 own:w.ownsRow base 5 1 r.v out.length (Lib.byteCells out)
theorem Bv {w:World} {base b j:Nat} {e:TypeId} {size:Nat} {v x:Value} {n:Nat} {xs:List Value} (h:w.ownsRow base e size v n xs) (hb:b<base):(w.setCell ⟨b,j,none⟩ x).ownsRow base e size v n xs:=by
 obtain ⟨h1,h2⟩:=h;refine ⟨h1,?_⟩;rcases h2 with h | ⟨g,cap,cur,hv,d,c,a⟩
 · exact .inl h
 refine .inr ⟨g,cap,cur,hv,d,?_,a⟩;rw [Z8 w ⟨b,j,none⟩ g x (by show g≠b;omega)];exact c
theorem run_set {w:World} {b:Nat} {r a:RC} (h:E5 w b r) (j:Nat) (x:Value) (c:a.cells=r.cells.setIfInBounds j x):E5 (w.setCell ⟨b,j,none⟩ x) b a:=by
 unfold E5;rw [o8 w b j r.cells 225 x h,c]
theorem St.set {base b:Nat} {w:World} {r a:RC} {out:List UInt8} (h:St base b w r out) (j:Nat) (x:Value) (d:a.cells=r.cells.setIfInBounds j x) (c:a.p=r.p) (hv:a.v=r.v):St base b (w.setCell ⟨b,j,none⟩ x) a out:=
 ⟨h.lt,by simpa using h.le,run_set h.run j x d,by rw [c];exact h.ptr,by rw [hv];exact Bv h.own h.lt⟩
theorem St.below {base b:Nat} {w w':World} {r:RC} {out:List UInt8} (h:St base b w r out) (a:Below w.heap.size w w'):St base b w' r out:=
 ⟨h.lt,Z4 h.le a.size,(a.block b (D7 h.lt h.le)).trans h.run,h.ptr,ownsRow_below h.own a⟩
theorem U3 {w:World} {b:Nat} {r:RC} (h:E5 w b r) (j:Nat):w.cell? ⟨b,j,none⟩=r.cells[j]?:=Z5 h j
theorem V6 {w:World} {b:Nat} {r:RC} (h:E5 w b r) (j:Nat):w.frozen? ⟨b,j,none⟩=false:=B_ h j
theorem run_shape {w:World} {b:Nat} {r:RC} (h:E5 w b r):w.shape? b=some (225,15):=by
 unfold E5 at h;simp [World.shape?,h,RC.cells]
theorem ZH:liesAt prog prog.depth 225 (15 / prog.cellsOf 225) 0 223 1=true:=U2
theorem Ns (b:Nat) (w:World) (h0:w.cell? ⟨b,0,none⟩=some (.pointer none)) (a:w.shape? b=some (225,15)) (hfz:w.frozen? ⟨b,0,none⟩=false):
 Calls prog 191 #[.pointer (some ⟨b,0,none⟩)] w fun e w'=>e=.returned (.tuple #[])/\w'=w.setCell ⟨b,0,none⟩ (.pointer (some ⟨b,0,none⟩)):=by
 obtain ⟨j,c,d⟩:=Uo.1 zu;have k1:=Lib.run_to_unsafe (P:=prog) w ⟨b,0,none⟩ underlying221 underlying200 c (by rw [d];decide) a (Nat.zero_lt_succ 14);have k3:=Lib.run_from_unsafe (P:=prog) w ⟨b,0,none⟩ underlying200 underlying221 c a ZH;have k2:∀ x,Sem.run prog (callFunc 201 #[x]) w=.ok (.value x) w:=fun x=>by
  rw [Tu func201 U2 U2 U2 (e:=Extern.AbiNoEscape.same) U2];rw [Lib.run_noEscape];rfl
 go_enter func191,ntmps191;go_wp2
 go_end0
 exact ⟨rfl,rfl⟩
def RC.used (r:RC) (b:Nat):RC:={ r with p:=.pointer (some ⟨b,0,none⟩) }
theorem FN (base b:Nat) (r:RC) (out:List UInt8) (w:World) (h:St base b w r out):
 Calls prog 191 #[.pointer (some ⟨b,0,none⟩)] w fun e w'=>e=.returned (.tuple #[])/\St base b w' (r.used b) out/\Kp base b w w':=by
 have c:=U3 h.run 0;rcases h.ptr with a | a
 · refine (Ns b w (by rw [c];show some r.p=_;rw [a]) (run_shape h.run) (V6 h.run 0)).mono ?_
   rintro e w' ⟨rfl,rfl⟩;exact ⟨rfl,⟨h.lt,by simpa using h.le,run_set h.run 0 _ rfl,.inr rfl,Bv h.own h.lt⟩,(Kp.refl _ _ _).set 0 _⟩
 refine (mq b w (by rw [c];show some r.p=_;rw [a])).mono ?_;rintro e w' ⟨rfl,rfl⟩;have d:r.used b=r:=by
  cases r
  simp only [RC.used] at a ⊢;rw [a]
 exact ⟨rfl,by rw [d];exact h,Kp.refl _ _ _⟩
theorem Qs (a b:List UInt8):Lib.byteCells a++Lib.byteCells b=Lib.byteCells (a++b):=by simp [Lib.byteCells]
theorem Fs (s:ByteArray):Lib.strCells s=Lib.byteCells s.data.toList:=by
 first
  | rfl
  | simp [Lib.strCells,Lib.byteCells]
theorem SN (base b:Nat) (r:RC) (out:List UInt8) (s:ByteArray) (w:World) (h:St base b w r out) (hlen:out.length+s.size<=140737488355328):
 Calls prog 195 #[.pointer (some ⟨b,0,none⟩),.string s] w fun e w'=>e=.returned (.tuple #[.int .i64 s.size,.nilIface])/\(∃ v',St base b w' { r with p:=.pointer (some ⟨b,0,none⟩),v:=v' } (out++s.data.toList))/\Kp base b w w':=by
 obtain ⟨o,y,t,q,f⟩:=Ze info5;have E:=Q0 h;clear h;go_enter func195,ntmps195
 go_wp2_with fail
 refine (FN base b r out w E.out).mono ?_;rintro e w1 ⟨rfl,⟨m,g,i,u,c⟩,n⟩;generalize hv:(r.used b).v=v at c;have H:=Q0 i;have B:=Q0 hv;have c1:w1.cell? ⟨b,1,none⟩=some v:=by rw [U3 i 1,<- hv];rfl
 have D:=Q0 n;have C:Hid (v.ownBlock≠some b):=fun e=>by have:=(c.lt _ e).1;omega
 clear i n hv u
 go_wp2_with (at_builtin;refine Lib.wpList_append_own_string _ rfl _ _ 22 9 rfl base 5 o underlying22 underlying9 y t q f _ _ _ rfl c s rfl (by unfold maxLen;omega) O0 g ?_;intro v' a l d _;have j:Hid (E5 a b (r.used b)):=Ud (v:=v) H.out C.out d;have F:Hid (Kp base b w a):=D.out.trans (Kp.gm ((Below.refl base w1).grown d g (fun k x=>(c.lt k x).1)));obtain ⟨A,z,rfl⟩:=Nq l;have d1:a.cell? ⟨b,1,none⟩=some v:=(by rw [U3 j.out 1,<- B.out];rfl);have f1:a.frozen? ⟨b,1,none⟩=false:=V6 j.out 1;have f:base<=a.heap.size:=Nat.le_trans g d.size;clear d)
 go_ret2;refine ⟨rfl,⟨.slice A (out.length+s.size) z,m,by simpa using f,run_set j.out 1 _ rfl,.inr rfl,?_⟩,F.out.set 1 _⟩;have h1:(out++s.data.toList).length=out.length+s.size:=by rw [Q7];simp
 rw [h1,<- Qs,<- Fs];exact Bv l m
theorem KJ (base b:Nat) (r:RC) (out:List UInt8) (w:World) (h:St base b w r out):
 Calls prog 194 #[.pointer (some ⟨b,0,none⟩)] w fun e w'=>e=.returned (.int .i64 out.length)/\w'=w:=by
 obtain ⟨c,a,hv⟩:=Nq h.own;have c1:w.cell? ⟨b,1,none⟩=some (.slice c out.length a):=by rw [U3 h.run 1,<- hv];rfl
 clear h hv;go_enter func194,ntmps194;go_wp2;go_ret;exact ⟨rfl,rfl⟩
def RC.fin (r:RC) (c:Int) (t:ByteArray):RC:={ r with halted:=true,over:=true,code:=c,text:=t }
def RC.stop (r:RC) (h:Bool):RC:={ r with halted:=true,has:=h,name:=r.hand }
def RC.looked (r:RC) (k:Int):RC:={ r with looks:=k }
theorem Kp.alloc {base b:Nat} {w w':World} (h:Kp base b w w') (a:base<=w'.heap.size) (o:Obj):Kp base b w (w'.alloc o):=h.trans (Kp.of_below ((F4 _ _).alloc P9 o) a)
theorem Kp.drew {base b:Nat} {w w':World} (h:Kp base b w w'):Kp base b w w'.drew:=⟨h.os,h.tape,h.output,h.size,h.block⟩
theorem K6 {w:World} {b:Nat} {r:RC} (h:E5 w b r) (o:Obj):E5 (w.alloc o) b r:=(Sm w o b (Q4 h)).trans h
theorem Tt {w w':World} {b:Nat} {r:RC} (h:E5 w b r) (a:Below w.heap.size w w'):E5 w' b r:=(a.block b (Q4 h)).trans h
theorem C_ {w:World} {b:Nat} {r:RC} (h:E5 w b r):b<w.heap.size:=Q4 h
theorem Wx (base b:Nat) (r:RC) (c:Int) (t:ByteArray) (w:World) (h:E5 w b r):
 Calls prog 166 #[.pointer (some ⟨b,0,none⟩),.int .i64 c,.string t] w fun e w'=>e=.returned (.tuple #[])/\E5 w' b (r.fin c t)/\Kp base b w w':=by
 have a:=Q0 h;have hlt:=C_ h;have YB:w.cell? ⟨b,8,none⟩=some (.bool r.halted):=U3 h 8;have cx9:w.cell? ⟨b,9,none⟩=some (.bool r.over):=U3 h 9;have a4i:w.cell? ⟨b,10,none⟩=some (.int .i64 r.code):=U3 h 10;have a4j:w.cell? ⟨b,11,none⟩=some (.string r.text):=U3 h 11;have f8:=V6 h 8;have f9:=V6 h 9;have f10:=V6 h 10;have f11:=V6 h 11;clear h;go_enter func166,ntmps166;go_wp2
 go_end0
 refine ⟨rfl,?_,((((Kp.refl base b w).set 8 _).set 9 _).set 10 _).set 11 _⟩;unfold E5;rw [o8 _ b 11 _ 225 _ (o8 _ b 10 _ 225 _ (o8 _ b 9 _ 225 _ (o8 _ b 8 _ 225 _ a.out)))];rfl
theorem fO (base b:Nat) (r:RC) (a:Bool) (w:World) (h:E5 w b r):
 Calls prog 202 #[.pointer (some ⟨b,0,none⟩),.bool a] w fun e w'=>e=.returned (.tuple #[])/\E5 w' b (r.stop a)/\Kp base b w w':=by
 have c:=Q0 h;have hlt:=C_ h;have c2:w.cell? ⟨b,2,none⟩=some (.string r.hand):=U3 h 2;have YB:w.cell? ⟨b,8,none⟩=some (.bool r.halted):=U3 h 8;have a4k:w.cell? ⟨b,12,none⟩=some (.bool r.has):=U3 h 12;have c119:w.cell? ⟨b,13,none⟩=some (.string r.name):=U3 h 13;have f8:=V6 h 8;have f12:=V6 h 12;have f13:=V6 h 13;clear h;go_enter func202,ntmps202;go_wp2
 go_end0
 refine ⟨rfl,?_,(((Kp.refl base b w).set 8 _).set 12 _).set 13 _⟩;unfold E5;rw [o8 _ b 13 _ 225 _ (o8 _ b 12 _ 225 _ (o8 _ b 8 _ 225 _ c.out))];rfl
theorem uK (base b:Nat) (r:RC) (n:Nat) (w:World) (h:E5 w b r) (c:r.place=n) (a:n<100):
 Calls prog 165 #[.pointer (some ⟨b,0,none⟩)] w fun e w'=>e=.returned (.tuple #[])/\E5 w' b (r.fin 2 (Q3 (Lib.decDigits n)))/\Kp base b w w':=by
 have f:=Q0 h;have cx6:w.cell? ⟨b,6,none⟩=some (.int .i64 n):=by rw [<- c];exact U3 h 6
 clear h;go_enter func165,ntmps165
 go_wp2_with fail
 refine (Tryz.strconv_Itoa_small n a w).mono ?_;rintro e w1 ⟨rfl,hw⟩;obtain rfl:=hw.symm
 go_wp2_with fail
 refine (Wx base b r 2 (Q3 (Lib.decDigits n)) w f.out).mono ?_;rintro e w2 ⟨rfl,h2,d⟩;have g:=Q0 h2;clear h2;go_wp2
 go_end0
 exact ⟨rfl,g.out,d⟩
theorem aN (base b:Nat) (r:RC) (out:List UInt8) (w:World) (h:St base b w r out):
 Calls prog 173 #[.pointer (some ⟨b,0,none⟩)] w fun e w'=>e=.returned (.string (Q3 out))/\E5 w' b r/\Kp base b w w':=by
 have D:∀ (W:World) (q:Option Addr),(Builtin.unsafeString_ #[270,3] 9 #[.pointer q,.int .i64 0]).run prog W=.ok (.string .empty) W:=fun W q=>Lib.run_unsafeString_none W _ _ _ q;have c:=Q0 h.run;have B:=h.lt;have C:=h.le;by_cases h0:out=[];rotate_left
 · have s:out.length≠0:=by simpa using h0
   have d:=h.own;rcases h.own.2 with ⟨_,y⟩ | ⟨g,cap,cur,hv,t,a,o,i,u,n⟩
   · exact absurd y s
   rw [hv] at d;have m:w.drew.cell? ⟨b,1,none⟩=some (.slice (some ⟨g,0,none⟩) out.length cap):=by
    show w.cell? ⟨b,1,none⟩=_;rw [U3 h.run 1];exact V3 some hv
   have l:(Builtin.unsafeSliceData_ #[22] 270 #[.slice (some ⟨g,0,none⟩) out.length cap]).run prog w.drew=.ok (.pointer (some ⟨g,0,none⟩)) w.drew:=
    kF _ _ _ _ _ _ O0
   have hUS:(Builtin.unsafeString_ #[270,3] 9 #[.pointer (some ⟨g,0,none⟩),.int .i64 out.length]).run prog w.drew=.ok (.string ⟨out.toArray⟩) (w.drew.freeze ⟨g,0,none⟩ out.length):=by
    refine Lib.run_unsafeString_row w.drew 270 3 9 5 underlying270 U2 g cur.size (by have f:w.drew.heap[g]?=some (.cells cur 5 (0,0)):=a;simp [World.shape?,f]) out h0 O0 (by unfold maxLen at i;omega) ?_;intro j x hx;exact d.cells (g:=g) rfl j (.int .u8 x.toNat) (by simp [Lib.byteCells,hx])
   have v:Hid (Below base w (w.drew.freeze ⟨g,0,none⟩ out.length)):=Lib.below_freeze (Below.drew (F4 base w)) (p:=⟨g,0,none⟩) t _;clear h d n u i o a s h0 D;go_enter func173,ntmps173;go_wp2
   go_region
   all_goals (go_wp2;go_ret;exact ⟨rfl,(v.out.block b B).trans c.out,Kp.gm v.out⟩)
 subst h0;rcases h.own.2 with ⟨hv,_⟩ | ⟨g,cap,cur,hv,t,a,o,i,u,n⟩
 · have m:w.drew.cell? ⟨b,1,none⟩=some (.slice none 0 0):=by
    show w.cell? ⟨b,1,none⟩=_;rw [U3 h.run 1,<- hv];rfl
   have l:(Builtin.unsafeSliceData_ #[22] 270 #[.slice none 0 0]).run prog w.drew=.ok (.pointer none) w.drew:=rfl;clear h;go_enter func173,ntmps173;go_wp2
   go_region
   all_goals (go_wp2;go_ret;exact ⟨rfl,c.out,(Kp.refl base b w).drew⟩)
 by_cases k:cap=0
 · subst k
   have z:w.cell? ⟨b,1,none⟩=some (.slice (some ⟨g,0,none⟩) 0 0):=by rw [U3 h.run 1];exact V3 some hv
   have m:w.drew.cell? ⟨b,1,none⟩=some (.slice (some ⟨g,0,none⟩) 0 0):=z;have l:(Builtin.unsafeSliceData_ #[22] 270 #[.slice (some ⟨g,0,none⟩) 0 0]).run prog w.drew=.ok (.pointer (some ⟨w.drew.heap.size,0,none⟩)) (w.drew.alloc (.view ⟨g,0,none⟩ 5)):=
    Lib.run_unsafeSliceData_zero w.drew _ _ 5 underlying270 ⟨g,0,none⟩ 0 (5,cur.size) (by have f:w.drew.heap[g]?=some (.cells cur 5 (0,0)):=a;simp [World.shape?,f])
   have A:=C_ h.run;have c2:(w.drew.alloc (.view ⟨g,0,none⟩ 5)).cell? ⟨b,1,none⟩=some (.slice (some ⟨g,0,none⟩) 0 0):=by
    have:(w.drew.alloc (.view ⟨g,0,none⟩ 5)).heap[b]?=_:=(Jf w.drew _ b A).trans h.run;rw [Z5 this];exact V3 some hv
   have cx3:(w.alloc (.view ⟨g,0,none⟩ 5)).drew.cell? ⟨b,1,none⟩=some (.slice (some ⟨g,0,none⟩) 0 0):=c2;clear h;go_enter func173,ntmps173;go_wp2
   go_region
   all_goals (go_wp2;go_ret;exact ⟨rfl,K6 (w:=w.drew) c.out _,(Kp.refl base b w).drew.alloc C _⟩)
 have m:w.drew.cell? ⟨b,1,none⟩=some (.slice (some ⟨g,0,none⟩) 0 cap):=by
  show w.cell? ⟨b,1,none⟩=_;rw [U3 h.run 1];exact V3 some hv
 have l:(Builtin.unsafeSliceData_ #[22] 270 #[.slice (some ⟨g,0,none⟩) 0 cap]).run prog w.drew=.ok (.pointer (some ⟨g,0,none⟩)) w.drew:=
  kF _ _ _ _ _ _ k
 clear h k;go_enter func173,ntmps173;go_wp2
 go_region
 all_goals (go_wp2;go_ret;exact ⟨rfl,c.out,(Kp.refl base b w).drew⟩)
theorem Kp.mono {base base' b:Nat} {w w':World} (h:Kp base' b w w') (hle:base<=base'):Kp base b w w':=⟨h.os,h.tape,h.output,h.size,fun k hk a=>h.block k O0 a⟩
theorem Kp.free {base b:Nat} {w w':World} (h:Kp base b w w') {p:Addr} (a:p.block<base) (c:p.block≠b):w'.frozen? p=w.frozen? p:=by
 unfold World.frozen?;rw [h.block p.block a c]
def z42:Obj:=.cells #[.int .i64 0,.string ⟨#[]⟩] 34
theorem Ir {w a:World} {b:Nat} (hb:b<w.heap.size) (c:Kp (w.heap.size+1) b (w.alloc z42) a):
 (a.cell? ⟨w.heap.size,0,none⟩=some (.int .i64 0)/\a.cell? ⟨w.heap.size,1,none⟩=some (.string ⟨#[]⟩))/\a.frozen? ⟨w.heap.size,0,none⟩=false/\a.frozen? ⟨w.heap.size,1,none⟩=false:=by
 have e:∀ j,a.cell? ⟨w.heap.size,j,none⟩=(w.alloc z42).cell? ⟨w.heap.size,j,none⟩:=fun j=>c.cell X0 J4;have f:∀ j,a.frozen? ⟨w.heap.size,j,none⟩=(w.alloc z42).frozen? ⟨w.heap.size,j,none⟩:=fun j=>c.free X0 J4;rw [e,e,f,f];unfold z42;simp
theorem kK (b:Nat) (r:RC) (l:Bool) (w:World) (h:E5 w b r) (hh:r.hand.size<=300) (i:J2 r.hand.data.toList=false):
 Calls prog 193 #[.pointer (some ⟨b,0,none⟩),.bool l] w fun e w'=>e=.returned (.tuple #[.agg #[.int .i64 0,.string ⟨#[]⟩],.bool false])/\E5 w' b (r.fin 4 ⟨#[63]⟩)/\Kp w.heap.size b w w':=by
 have q:Hid (E5 (w.alloc z42) b r):=K6 h _;have c2:w.cell? ⟨b,2,none⟩=some (.string r.hand):=U3 h 2;have m:=C_ h;have a:w.heap.size<=w.heap.size:=Q6 _;have s:=Q0 i;have u:Hid (Kp w.heap.size b w (w.alloc z42)):=(Kp.refl _ b w).alloc a _;clear h i;go_enter func193,ntmps193
 go_wp2_with fail
 refine (c19 r.hand _ O0).mono ?_;rintro e w1 ⟨rfl,rfl⟩;rw [s.out]
 go_wp2_with fail
 refine (Wx (w.heap.size+1) b r 4 ⟨#[63]⟩ _ q.out).mono ?_;rintro e d ⟨rfl,h2,j⟩;have c:=j;obtain ⟨⟨f,k⟩,g0,g1⟩:=Ir m c;have x:=Q0 h2;have t:=Q0 (u.out.trans (c.mono O0));have o:=O7 d ⟨w.heap.size,0,none⟩ (.int .i64 0) f;obtain ⟨p,n⟩:=Eu d w.heap.size 0 (.int .i64 0) (.string ⟨#[]⟩) _ _ f k;clear p;clear h2 c j;go_wp2;have g:b≠w.heap.size:=O0;refine K4 (v:=.tuple #[.agg #[.int .i64 0,.string ⟨#[]⟩],.bool false]) (by simp [results,results193,go_sem,o,n]) rfl ⟨rfl,?_,?_⟩
 · unfold E5
   rw [Z8 _ _ _ _ (by exact g),Z8 _ _ _ _ (by exact g)];exact x.out
 exact t.out.trans (Kp.gm (((F4 w.heap.size _).setCell (by exact a) _).setCell (by exact a) _))
theorem JJ (b:Nat) (r:RC) (l:Bool) (w:World) (h:E5 w b r) (hh:r.hand.size<=300) (i:J2 r.hand.data.toList=true) (n:r.looks=14):
 Calls prog 193 #[.pointer (some ⟨b,0,none⟩),.bool l] w fun e w'=>e=.returned (.tuple #[.agg #[.int .i64 0,.string ⟨#[]⟩],.bool false])/\E5 w' b (r.fin 3 ⟨#[]⟩)/\Kp w.heap.size b w w':=by
 have s:Hid (E5 (w.alloc z42) b r):=K6 h _;have c2:w.cell? ⟨b,2,none⟩=some (.string r.hand):=U3 h 2;have cx5:w.cell? ⟨b,5,none⟩=some (.int .i64 14):=by rw [<- n];exact U3 h 5
 have m:=C_ h;have a:w.heap.size<=w.heap.size:=Q6 _;have t:=Q0 i;have x:Hid (Kp w.heap.size b w (w.alloc z42)):=(Kp.refl _ b w).alloc a _;clear h i;go_enter func193,ntmps193
 go_wp2_with fail
 refine (c19 r.hand _ O0).mono ?_;rintro e w1 ⟨rfl,rfl⟩;rw [t.out]
 go_wp2_with fail
 refine (Wx (w.heap.size+1) b r 3 ⟨#[]⟩ _ s.out).mono ?_;rintro e d ⟨rfl,h2,j⟩;have c:=j;obtain ⟨⟨f,k⟩,g0,g1⟩:=Ir m c;have y:=Q0 h2;have u:=Q0 (x.out.trans (c.mono O0));have p:=O7 d ⟨w.heap.size,0,none⟩ (.int .i64 0) f;obtain ⟨q,o⟩:=Eu d w.heap.size 0 (.int .i64 0) (.string ⟨#[]⟩) _ _ f k;clear q;clear h2 c j;go_wp2;have g:b≠w.heap.size:=O0;refine K4 (v:=.tuple #[.agg #[.int .i64 0,.string ⟨#[]⟩],.bool false]) (by simp [results,results193,go_sem,p,o]) rfl ⟨rfl,?_,?_⟩
 · unfold E5
   rw [Z8 _ _ _ _ (by exact g),Z8 _ _ _ _ (by exact g)];exact y.out
 exact u.out.trans (Kp.gm (((F4 w.heap.size _).setCell (by exact a) _).setCell (by exact a) _))
theorem fK (b:Nat) (r:RC) (c:Bool) (w:World) (h:E5 w b r) (hh:r.hand.size<=300) (k:J2 r.hand.data.toList=true) (a:Option Addr) (n cap:Nat) (q:r.looks=n) (hl2:n<14) (o:r.nR=.slice a n cap):
 Calls prog 193 #[.pointer (some ⟨b,0,none⟩),.bool c] w fun e w'=>e=.returned (.tuple #[.agg #[.int .i64 0,.string ⟨#[]⟩],.bool false])/\E5 w' b (r.stop c)/\Kp w.heap.size b w w':=by
 have x:Hid (E5 (w.alloc z42) b r):=K6 h _;have c2:w.cell? ⟨b,2,none⟩=some (.string r.hand):=U3 h 2;have cx5:w.cell? ⟨b,5,none⟩=some (.int .i64 n):=by rw [<- q];exact U3 h 5
 have cx4:w.cell? ⟨b,4,none⟩=some (.slice a n cap):=by rw [U3 h 4,<- o];rfl
 have p:=C_ h;have d:w.heap.size<=w.heap.size:=Q6 _;have y:=Q0 k;have A:Hid (Kp w.heap.size b w (w.alloc z42)):=(Kp.refl _ b w).alloc d _;clear h k;go_enter func193,ntmps193
 go_wp2_with fail
 refine (c19 r.hand _ O0).mono ?_;rintro e w1 ⟨rfl,rfl⟩;rw [y.out]
 go_wp2_with fail
 go_region
 go_wp2_with fail
 refine (fO (w.heap.size+1) b r c (w.alloc z42).drew x.out).mono ?_;rintro e g ⟨rfl,h2,l⟩;have f:=(Kp.refl _ b (w.alloc z42)).drew.trans l;obtain ⟨⟨i,m⟩,g0,g1⟩:=Ir p f;have B:=Q0 h2;have z:=Q0 (A.out.trans (f.mono O0));have t:=O7 g ⟨w.heap.size,0,none⟩ (.int .i64 0) i;obtain ⟨u,s⟩:=Eu g w.heap.size 0 (.int .i64 0) (.string ⟨#[]⟩) _ _ i m;clear u;clear h2 f l;go_wp2;have j:b≠w.heap.size:=O0;refine K4 (v:=.tuple #[.agg #[.int .i64 0,.string ⟨#[]⟩],.bool false]) (by simp [results,results193,go_sem,t,s]) rfl ⟨rfl,?_,?_⟩
 · unfold E5
   rw [Z8 _ _ _ _ (by exact j),Z8 _ _ _ _ (by exact j)];exact B.out
 exact z.out.trans (Kp.gm (((F4 w.heap.size _).setCell (by exact d) _).setCell (by exact d) _))
theorem St.kp {base b:Nat} {w w':World} {r a:RC} {out:List UInt8} (h:St base b w r out) (d:Kp w.heap.size b w w') (c:E5 w' b a) (f:a.p=r.p) (hv:a.v=r.v):St base b w' a out:=by
 refine ⟨h.lt,Z4 h.le d.size,c,by rw [f];exact h.ptr,?_⟩;rw [hv];obtain ⟨h1,h2⟩:=h.own;refine ⟨h1,?_⟩;rcases h2 with h2 | ⟨g,cap,cur,hv,i,e,c⟩
 · exact .inl h2
 refine .inr ⟨g,cap,cur,hv,i,?_,c⟩;have:=h.lt;rw [d.block g (Q4 e) O0];exact e
theorem FJ (b:Nat) (r:RC) (f:Bool) (w:World) (h:E5 w b r) (hh:r.hand.size<=300) (d:J2 r.hand.data.toList=true) (a c n cap k:Nat) (x:R2) (i:r.looks=k) (hl2:k<14) (hkn:k<n) (g:r.nR=.slice (some ⟨a,c,none⟩) n cap) (a3t:n<=14) (hba:a<w.heap.size)
 (x0:w.cell? ⟨a,c+k*2,none⟩=some (.int .i64 x.code)) (x1:w.cell? ⟨a,c+k*2+1,none⟩=some (.string x.tx)):
 Calls prog 193 #[.pointer (some ⟨b,0,none⟩),.bool f] w fun e w'=>e=.returned (.tuple #[.agg #[.int .i64 x.code,.string x.tx],.bool true])/\E5 w' b (r.looked (k+1))/\Kp w.heap.size b w w':=by
 have j:=Q0 h;have c2:w.cell? ⟨b,2,none⟩=some (.string r.hand):=U3 h 2;have cx5:w.cell? ⟨b,5,none⟩=some (.int .i64 k):=by rw [<- i];exact U3 h 5
 have cx4:w.cell? ⟨b,4,none⟩=some (.slice (some ⟨a,c,none⟩) n cap):=by rw [U3 h 4,<- g];rfl
 have f5:=V6 h 5;have hlt:=C_ h;have hle:w.heap.size<=w.heap.size:=Q6 _;have l:=Q0 d;clear h d;go_enter func193,ntmps193
 go_wp2_with fail
 refine (c19 r.hand _ O0).mono ?_;rintro e w1 ⟨rfl,rfl⟩;rw [l.out]
 go_wp2_with fail
 go_region
 go_wp2_with fail
 go_region
 go_wp2;refine K4 (v:=.tuple #[.agg #[.int .i64 x.code,.string x.tx],.bool true]) (by simp [results,results193,go_sem]) rfl ⟨rfl,?_,?_⟩
 · have h1:E5 (w.setCell ⟨b,5,none⟩ (.int .i64 ((k:Int)+1))) b (r.looked (k+1)):=run_set j.out 5 _ rfl
   exact Tt h1 ((bA.alloc X0 _).drew.drew)
 exact ((((Kp.refl w.heap.size b w).set 5 _).alloc X0 _).alloc X0 _).drew.drew
def met (b:Nat) (f:Nat):Value:=.func (.func f) #[.pointer (some ⟨b,0,none⟩)] #[]
theorem c164 (b:Nat) (w:World):
 Calls prog 164 #[.pointer (some ⟨b,0,none⟩)] w fun e w'=>e=.returned (.agg #[.nilFunc,met b 174,met b 175,met b 176,met b 177,met b 178,met b 179,met b 180,met b 181,met b 182,met b 183,met b 184])/\Below w.heap.size w w':=by
 have hsn:∀ (w:World) (a:Addr) (m:Mode),(store a .nilFunc m).run prog w=stored prog w a .nilFunc m:=fun w a m=>run_store _ _ _ _ _ rfl;have hsf:∀ (w:World) (a:Addr) (f:Fn) (x y:Array Value) (m:Mode),(store a (.func f x y) m).run prog w=stored prog w a (.func f x y) m:=fun w a f x y m=>run_store _ _ _ _ _ rfl;go_enter func164,ntmps164;go_wp2;refine K4 (v:=.agg #[.nilFunc,met b 174,met b 175,met b 176,met b 177,met b 178,met b 179,met b 180,met b 181,met b 182,met b 183,met b 184]) (by simp [results,results164,go_sem,met]) rfl ⟨rfl,bA⟩
end Go.Proofs.YtdjaajjndfbpmaaGreatDoor
