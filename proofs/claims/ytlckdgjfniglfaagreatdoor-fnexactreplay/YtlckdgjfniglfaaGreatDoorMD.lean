import Derived.Test.YtlckdgjfniglfaaGreatDoortW3
import Derived.Test.YtlckdgjfniglfaaGreatDoorM6
import Derived.Test.YtlckdgjfniglfaaGreatDoorMB
set_option linter.unusedVariables false
set_option maxHeartbeats 8000000
set_option maxRecDepth 100000
namespace Go.Proofs.YtlckdgjfniglfaaGreatDoor
open Proofs.Tryz
open Go.RowKit Go.Maps
open Classical in
noncomputable def keepC (W:Int) (ts:List ByteArray) (rs:List R3) (m:M3) (ls:List L4) (c:Int) (t:ByteArray):Int:=
 if ¬ RanOk m ls c t then 2 else if (putAll W (fmL ls c t) (ts,true)).2=false then 3 else
 if 300<(putAll W (fmL ls c t) (ts,true)).1.length\/150<(putR rs (recR W m ls c t)).length then 4 else 0
theorem c77v {c:Int} {s:ByteArray} {v:Bool} (hv:vr c s.data.toList=v) (w:World) (hs:s.size<=1048700):Calls prog 77 #[.agg #[.int .i64 c,.string s]] w fun e w'=>e=.returned (.bool v)/\Below w.heap.size w w':=hv▸c77 c s w hs
theorem key_size {m:M3} (h:okM m=true):(keyR m).size<=321:=by
 unfold okM nameOk at h;simp only [Bool.and_eq_true,decide_eq_true_eq] at h;have e:m.tl.data.toList.length=m.tl.size:=Array.length_toList;have h1:=h.1.2.1.2;have h2:=h.2;unfold keyR;rw [ByteArray.size_append,ByteArray.size_append];have e1:(⟨#[32]⟩:ByteArray).size=1:=rfl;omega
theorem wrap_sum {a:Int} (h:0<=a/\a<=1000000):IntKind.i64.wrap a=a:=by
 exact IntWalk.i64_in a om_
theorem insT_len (W:Int) (t:ByteArray) (ts:List ByteArray):(insT W t ts).length=ts.length+1:=by
 have h:=congrArg List.length (insT_map W t ts);rw [List.length_map,(insK_perm _ _).length_eq] at h;simpa using h
theorem putT_len (W:Int) (t:ByteArray) (ts:List ByteArray):(putT W t ts).1.length<=ts.length+1:=by
 unfold putT;split
 · exact Nat.le_succ _
 · rw [insT_len];exact Nat.le_refl _
theorem putAll_len (W:Int):∀ (a ts:List ByteArray) (b:Bool),(putAll W a (ts,b)).1.length<=ts.length+a.length
 | [],ts,b=>Nat.le_refl _
 | t::r,ts,b=>by
  have h1:=putAll_len W r (putT W t ts).1 (b&&(putT W t ts).2);have h2:=putT_len W t ts;have e:putAll W (t::r) (ts,b)=putAll W r ((putT W t ts).1,b&&(putT W t ts).2):=rfl;rw [e,List.length_cons];omega
theorem gl_row {E:World} {base n:Nat} {a5:Option Addr} {c905:Nat} {W:Int} {ls:List L4} (h:E.ownsRow base 119 3 (.slice a5 n c905) ls.length (glC W ls)):GlsAt E a5 (ls.map (recG W))/\(ls.map (recG W)=[]\/∃ b off,a5=some ⟨b,off,none⟩/\∃ cur fr,E.heap[b]?=some (.cells cur 119 fr)):=by
 have hrow:=h;have hgl:∀ (l:List L4) (k:Nat),k<l.length->(glC W l)[k*3]?=some (.bool (l.getD k l4z).has)/\(glC W l)[k*3+1]?=some (.string (l.getD k l4z).nm)/\(glC W l)[k*3+2]?=some (.string (sumS (glT (l.getD k l4z)) W)):=by
  intro l
  induction l with
  | nil=>intro k hk;exact absurd hk (Nat.not_lt_zero _)
  | cons x r ih=>
   intro k hk
   cases k with
   | zero=>exact ⟨rfl,rfl,rfl⟩
   | succ k=>
    have:=ih k (by simpa using hk);have e1:(k+1)*3=k*3+1+1+1:=om_;rw [e1];exact this
 rcases h.2 with ⟨hv,h0⟩ | ⟨g,cap,cur,hv,hg,hh,_⟩
 · have e:=List.length_eq_zero_iff.1 h0
   subst e;exact ⟨.inl rfl,.inl rfl⟩
 · simp only [Value.slice.injEq] at hv
   obtain ⟨rfl,rfl,rfl⟩:=hv;refine ⟨.inr ⟨g,0,rfl,(Array.getElem?_eq_some_iff.1 hh).1,fun k hk=>?_⟩,.inr ⟨g,0,rfl,cur,(0,0),hh⟩⟩;rw [List.length_map] at hk;have e:(ls.map (recG W)).getD k g3z=recG W (ls.getD k l4z):=by simp only [List.getD,List.getElem?_map,List.getElem?_eq_getElem hk,Option.map_some,Option.getD_some]
   obtain ⟨e0,e1,e2⟩:=hgl ls k hk;rw [e];refine ⟨?_,?_,?_⟩
   · rw [Nat.zero_add,hrow.cellAt (k*3) om_];exact e0
   · rw [Nat.zero_add,hrow.cellAt (k*3+1) om_];exact e1
   · rw [Nat.zero_add,hrow.cellAt (k*3+2) om_];exact e2
theorem Fr.vals {W:Int} {l f:List (ByteArray×Value)} {ts:List ByteArray} (h:Fr W l f ts):∀ p∈f,∃ q,p.2=mk3 q:=fun p hp=>by
 obtain ⟨y,_,rfl⟩:=List.mem_map.1 (h.perm.mem_iff.2 (List.mem_append_left l hp));exact ⟨(y,hC y,hT y),rfl⟩
theorem putR_len {rs:List R3} {x:R3} (h:rs.length<=150):150<(putR rs x).length↔x∉rs/\rs.length=150:=by
 unfold putR;split
 · rename_i hx
   constructor
   · intro h1;omega
   · intro h1;exact absurd hx h1.1
 · rename_i hx
   simp only [List.length_append,List.length_singleton];constructor
   · intro h1;exact ⟨hx,om_⟩
   · intro h1;omega
theorem gl_size {x:L4} (h:x.tx.size<=1048576):(glT x).size<=1048700:=by
 unfold glT;split
 · split <;> decide
 · have:=fm_size x.cd x.tx
   unfold fmR at this;omega
def IsKp (B H bT bR bP:Nat) (W:Int) (ts:List ByteArray) (rs:List R3) (m:M3) (ls:List L4) (c:Int) (t:ByteArray) (w':World) (e:Ending):Prop:=
 e=.returned (.int .i64 (keepC W ts rs m ls c t))/\(keepC W ts rs m ls c t=0->∃ rv',Sh B H bT bR bP W ((putAll W (fmL ls c t) (ts,true)).1.map (gT W)) (putR rs (recR W m ls c t)) rv' w')
theorem kp_ne {B H bT bR bP:Nat} {W:Int} {ts:List ByteArray} {rs:List R3} {m:M3} {ls:List L4} {c:Int} {t:ByteArray} {w':World} {n:Int} (h:keepC W ts rs m ls c t=n) (hn:n≠0):IsKp B H bT bR bP W ts rs m ls c t w' (.returned (.int .i64 n)):=⟨by rw [h],fun e=>absurd (h.symm.trans e) hn⟩
theorem kp_0 {B H bT bR bP:Nat} {W:Int} {ts:List ByteArray} {rs:List R3} {m:M3} {ls:List L4} {c:Int} {t:ByteArray} {w':World} {rv':List Value} (h:keepC W ts rs m ls c t=0) (hs:Sh B H bT bR bP W ((putAll W (fmL ls c t) (ts,true)).1.map (gT W)) (putR rs (recR W m ls c t)) rv' w'):IsKp B H bT bR bP W ts rs m ls c t w' (.returned (.int .i64 0)):=⟨by rw [h],fun _=>⟨rv',hs⟩⟩
theorem c46 (B H bT bR bP:Nat) (W:Int) (ts:List ByteArray) (rs:List R3) (rv:List Value) (m:M3) (ls:List L4) (c:Int) (t:ByteArray) (a:Option Addr) (cap:Nat) (w:World) (hSh:Sh B H bT bR bP W (ts.map (gT W)) rs rv w) (hW:1<=W/\W<=8) (hA:AscT W ts) (htl:ts.length<=300) (hrl:rs.length<=150) (hgs:∀ i,(rs.getD i r3z).gs.length<=1048576) (hm:m.le 1048576) (hl:ls.length<=1048576) (hs:∀ i,(ls.getD i l4z).le 1048576) (ht:t.size<=1048576) (hat:LksAt w a ls):
 Calls prog 46 #[.pointer (some ⟨H,0,none⟩),.agg #[.string m.nm,.string m.tl,.string m.ar],.slice a ls.length cap,.agg #[.int .i64 c,.string t]] w fun e w'=>IsKp B H bT bR bP W ts rs m ls c t w' e/\Below B w w'/\KF w w':=by
 have hBw:B<=w.heap.size:=by obtain ⟨pl,h1,_⟩:=hSh;have:=h1.hH;have:=h1.lt;omega
 have BW0:Below w.heap.size w ((w.alloc (.cells #[.string m.nm,.string m.tl,.string m.ar] 42)).alloc (.cells #[.int .i64 c,.string t] 45)):=bA_.alloc sm_ _;have s0:((w.alloc (.cells #[.string m.nm,.string m.tl,.string m.ar] 42)).alloc (.cells #[.int .i64 c,.string t] 45)).heap.size=w.heap.size+2:=sm_;have BK0:Hid (BlkAt ((w.alloc (.cells #[.string m.nm,.string m.tl,.string m.ar] 42)).alloc (.cells #[.int .i64 c,.string t] 45)) w.heap.size [.string m.nm,.string m.tl,.string m.ar]):=hI_ ((blk_new w [.string m.nm,.string m.tl,.string m.ar] 42).below (N:=w.heap.size+1) ((Below.refl _ _).alloc sm_ _) om_);have BC0:Hid (BlkAt ((w.alloc (.cells #[.string m.nm,.string m.tl,.string m.ar] 42)).alloc (.cells #[.int .i64 c,.string t] 45)) (w.heap.size+1) [.int .i64 c,.string t]):=by have h:=blk_new (w.alloc (.cells #[.string m.nm,.string m.tl,.string m.ar] 42)) [.int .i64 c,.string t] 45;rw [show (w.alloc (.cells #[.string m.nm,.string m.tl,.string m.ar] 42)).heap.size=w.heap.size+1 by simp] at h;exact h
 have k0:=BK0.out 0 _ rfl;have k1:=BK0.out 1 _ rfl;have k2:=BK0.out 2 _ rfl;have HSH:=hI_ hSh;have hkR:m.tl.size<=1048576/\m.ar.size<=1048576:=⟨hm.2.1,hm.2.2⟩;have HM7:Hid (m.le 1048700):=⟨Nat.le_trans hm.1 om_,Nat.le_trans hm.2.1 om_,Nat.le_trans hm.2.2 om_⟩;clear hSh;go_enter func46,ntmps46
 go_wp2_with fail
 generalize ((w.alloc (.cells #[.string m.nm,.string m.tl,.string m.ar] 42)).alloc (.cells #[.int .i64 c,.string t] 45))=U1 at*;cases hn:okM m
 · have HK:Hid (keepC W ts rs m ls c t=2):=by show keepC _ _ _ _ _ _ _=2;unfold keepC;rw [if_pos (fun h=>by have h1:=h.1;rw [hn] at h1;cases h1)]
   refine (c89v hn _ HM7.out).mono ?_;rintro e w1 ⟨rfl,hb1⟩;go_wp2;go_ret;exact ⟨kp_ne HK.out dc_,(BW0.trans (hb1.mono om_)).mono hBw,kf_below (BW0.trans (hb1.mono om_)) lr_⟩
 · refine (c89v hn _ HM7.out).mono ?_
   rintro e w1 ⟨rfl,hb1⟩;have s1:=hb1.size;have BK1:=hI_ (BK0.out.below hb1 om_);have BC1:=hI_ (BC0.out.below hb1 om_);have BW1:=BW0.trans (hb1.mono om_);clear hb1 k0 k1 k2
   go_wp2_with fail
   refine (c90 a cap ls _ hl hs (lks_below hat BW1)).mono ?_;rintro e w2 ⟨⟨r,rfl,hr⟩,hb2⟩;have s2:=hb2.size;have BK2:=hI_ (BK1.out.below hb2 om_);have BC2:=hI_ (BC1.out.below hb2 om_);have BW2:=BW1.trans (hb2.mono om_);have j0:=BC2.out 0 _ rfl;have j1:=BC2.out 1 _ rfl;clear hb2;cases r
   · have HK:Hid (keepC W ts rs m ls c t=2):=by show keepC _ _ _ _ _ _ _=2;unfold keepC;rw [if_pos (fun h=>absurd (hr.2 h.2.1) dc_)]
     clear hr;go_wp2;go_ret;exact ⟨kp_ne HK.out dc_,BW2.mono hBw,kf_below BW2 lr_⟩
   · have hlo:=hr.1 rfl
     clear hr
     go_wp2_with fail
     cases hv:vr c t.data.toList
     · have HK:Hid (keepC W ts rs m ls c t=2):=by show keepC _ _ _ _ _ _ _=2;unfold keepC;rw [if_pos (fun h=>by have h1:=h.2.2;rw [hv] at h1;cases h1)]
       refine (c77v hv _ om_).mono ?_;rintro e w3 ⟨rfl,hb3⟩;have BW3:=BW2.trans (hb3.mono om_);go_wp2;go_ret;exact ⟨kp_ne HK.out dc_,BW3.mono hBw,kf_below BW3 lr_⟩
     · refine (c77v hv _ om_).mono ?_
       rintro e w3 ⟨rfl,hb3⟩;have s3:=hb3.size;have BK3:=hI_ (BK2.out.below hb3 om_);have BC3:=hI_ (BC2.out.below hb3 om_);have BW3:=BW2.trans (hb3.mono om_);have HRK:Hid (RanOk m ls c t):=⟨hn,hlo,hv⟩;have i0:=BC3.out 0 _ rfl;have i1:=BC3.out 1 _ rfl;have HL3:=hI_ (lks_below hat BW3);have HS3:=hI_ (HSH.out.below BW3);have h63:=c91 B H bT bR bP W ts rs rv ls c t a cap w3 HS3.out hW hA hlo hv hl HL3.out;clear hb3 j0 j1
       go_wp2_with fail
       refine h63.mono ?_;rintro e w4 ⟨hfr,hb4⟩;clear h63;have s4:=hb4.size;have BK4:=hI_ (BK3.out.below hb4 om_);have BC4:=hI_ (BC3.out.below hb4 om_);have BW4:=BW3.trans (hb4.mono om_);rcases hfr with ⟨bF,f,ts',rfl,hbF,hmF,hFr,hpu⟩ | ⟨rfl,hno⟩
       · have HFr:=hI_ hFr
         have HPU:=hI_ hpu;have HMF:=hI_ hmF;have HS4:=hI_ (HS3.out.below hb4);have HL4:=hI_ (lks_below HL3.out hb4);have q0:=BC4.out 0 _ rfl;have q1:=BC4.out 1 _ rfl;have p0:=BK4.out 0 _ rfl;have p1:=BK4.out 1 _ rfl;have p2:=BK4.out 2 _ rfl;have hfl:f.length+ts.length=ts'.length:=by have:=hFr.done.2;rw [List.length_map] at this;omega
         have hH4:H<w4.heap.size/\w4.cell? ⟨H,0,none⟩=some (.int .i64 W):=by obtain ⟨pl,h1,_⟩:=HS4.out;exact ⟨h1.lt,h1.blk 0 _ rfl⟩
         have h64:=c92 m ls c t W H a cap w4 ⟨Nat.le_trans hm.1 om_,Nat.le_trans hm.2.1 om_,Nat.le_trans hm.2.2 om_⟩ om_ (by have:=fm_size c t;unfold fmR at this;omega) hl (fun i=>⟨Nat.le_trans (hs i).2 om_,gl_size (hs i).2⟩) HL4.out hH4.1 hH4.2;clear hFr hpu hmF i0 i1
         go_wp2_with fail
         refine h64.mono ?_;rintro e w5 ⟨⟨v5,rfl,hv5⟩,hb5⟩;obtain ⟨a5,c905,rfl⟩:=row_form hv5;clear h64;have s5:=hb5.size;have hb5x:Below w4.heap.size w4 (w5.alloc (.cells #[.string (keyR m),.slice a5 ls.length c905,.string (sumS (ofL (formR c t.data.toList)) W)] 96)):=hb5.alloc s5 _;have sX:(w5.alloc (.cells #[.string (keyR m),.slice a5 ls.length c905,.string (sumS (ofL (formR c t.data.toList)) W)] 96)).heap.size=w5.heap.size+1:=sm_;have BWx:=BW4.trans (hb5x.mono om_);have HSx:=hI_ (HS4.out.below hb5x);have HMx:=hI_ (mp_below HMF.out hb5x HMF.out.lt);have EX:Hid (BlkAt (w5.alloc (.cells #[.string (keyR m),.slice a5 ls.length c905,.string (sumS (ofL (formR c t.data.toList)) W)] 96)) w5.heap.size [.string (keyR m),.slice a5 ls.length c905,.string (sumS (ofL (formR c t.data.toList)) W)]):=hI_ (blk_new w5 [.string (keyR m),.slice a5 ls.length c905,.string (sumS (ofL (formR c t.data.toList)) W)] 96);have hrow:=own_below hv5 ((Below.refl _ _).alloc lr_ (.cells #[.string (keyR m),.slice a5 ls.length c905,.string (sumS (ofL (formR c t.data.toList)) W)] 96));have GR:=hI_ (gl_row hrow);obtain ⟨x,hx⟩:∃ x,recR W m ls c t=x:=⟨_,rfl⟩;have HX:=hI_ hx;have hxk:x.key=keyR m:=by rw [<- hx];rfl
         have hxo:x.out=sumS (ofL (formR c t.data.toList)) W:=by rw [<- hx];rfl
         have hxg:x.gs=ls.map (recG W):=by rw [<- hx];rfl
         have hxl:x.gs.length=ls.length:=by rw [hxg];simp
         have hxs:x.key.size<=321:=by rw [hxk];exact key_size hn
         have HRV:Hid (RecV B (w5.alloc (.cells #[.string (keyR m),.slice a5 ls.length c905,.string (sumS (ofL (formR c t.data.toList)) W)] 96)) (.agg #[.string x.key,.slice a5 x.gs.length c905,.string x.out]) x):=⟨a5,c905,rfl,by rw [hxg];exact GR.out.1,by
          rw [hxg];rcases GR.out.2 with h | ⟨b,off,h1,h2⟩
          · exact .inl h
          · exact .inr ⟨b,off,h1,.inr h2⟩⟩
         have h65:=c93 B H bT bR bP W _ rs rv x a5 c905 (w5.alloc (.cells #[.string (keyR m),.slice a5 ls.length c905,.string (sumS (ofL (formR c t.data.toList)) W)] 96)) HSx.out (by rw [hxg];exact GR.out.1) om_ om_ om_ hgs;rw [hxk,hxl,hxo] at h65;have z0:=EX.out 0 _ rfl;have z1:=EX.out 1 _ rfl;have z2:=EX.out 2 _ rfl;clear hx
         go_wp2_with fail
         refine h65.mono ?_;rintro e w6 ⟨⟨bt,rfl,hbt⟩,hb6⟩;clear h65 z0 z1 z2;generalize (w5.alloc (.cells #[.string (keyR m),.slice a5 ls.length c905,.string (sumS (ofL (formR c t.data.toList)) W)] 96))=x5 at*;have s6:=hb6.size;have BW6:=BWx.trans (hb6.mono om_);have HF6:=hI_ (mp_below HMx.out hb6 HMx.out.lt);have E6:=hI_ (EX.out.below hb6 om_);have RV6:=hI_ (HRV.out.kept (below_gb hb6) (fun _ e=>by cases e));obtain ⟨pl,hC6,hR6⟩:=HSx.out.below hb6;have HC6:=hI_ hC6;have HR6':=hI_ hR6;have HT6:=hI_ hC6.tx;have HR6:=hI_ hC6.rc;have f1:=hC6.blk 1 _ rfl;have f2:=hC6.blk 2 _ rfl;have o0:=E6.out 0 _ rfl;have o1:=E6.out 1 _ rfl;have o2:=E6.out 2 _ rfl;have hbTw:bT<w.heap.size:=by obtain ⟨pl',h1,_⟩:=HSH.out;exact h1.tx.lt
         have hrvl:=hI_ hR6.len;have hrv2:rv.length<=150:=by rw [hrvl.out];exact hrl
         have HDN:=hI_ HFr.out.done.1;have hfn:f.length<=16:=by
          have h1:=putAll_len W (fmL ls c t) ts true;rw [HPU.out] at h1;have h2:(fmL ls c t).length=(askR ls).length+1:=by simp [fmL]
          have h3:=askR_len ls;have h4:=hlo.1;simp only at h1;omega
         have h66:=c94 bT bF _ _ _ f w6 HT6.out HF6.out HFr.out.vals om_ (by rw [mapD_size,List.length_map];unfold maxLen;omega);have HKC:Hid (((300<ts'.length\/(x∉rs/\rs.length=150))->keepC W ts rs m ls c t=4)/\(¬ (300<ts'.length\/(x∉rs/\rs.length=150))->keepC W ts rs m ls c t=0)):=by
          show _/\_;have e:keepC W ts rs m ls c t=if 300<ts'.length\/150<(putR rs x).length then 4 else 0:=by
           unfold keepC;rw [if_neg (fun h=>h HRK.out),HPU.out,if_neg sm_,HX.out]
          rw [e];exact ⟨fun h=>if_pos (h.imp id (putR_len hrl).2),fun h=>if_neg (fun k=>h (k.imp id (putR_len hrl).1))⟩
         have hwr:IntKind.i64.wrap ((ts.length:Int)+(f.length:Int))=(ts.length:Int)+(f.length:Int):=wrap_sum om_;have hlT:=hC6.tx.len underlying84 3;rw [mapD_size,List.length_map] at hlT;have hlF:=HF6.out.len underlying84 3;rw [mapD_size] at hlF;have hlR:=hC6.rc.len underlying85 3;rw [intD_size] at hlR;clear hC6 hR6;by_cases h300:300<ts.length+f.length
         · have HK:Hid (keepC W ts rs m ls c t=4):=by show keepC _ _ _ _ _ _ _=4;exact HKC.out.1 (.inl om_)
           have hi3:(300:Int)<(ts.length:Int)+(f.length:Int):=om_;clear h66
           go_wp2_with fail
           go_ret;exact ⟨kp_ne HK.out dc_,BW6.mono hBw,kf_below BW6 lr_⟩
         · have hi3:¬ (300:Int)<(ts.length:Int)+(f.length:Int):=om_
           cases bt
           · have HNX:Hid (x∉rs):=fun h=>absurd (hbt.2 h) dc_
             by_cases h150:rv.length=150
             · have HK:Hid (keepC W ts rs m ls c t=4):=by show keepC _ _ _ _ _ _ _=4;exact HKC.out.1 (.inr ⟨HNX.out,by rw [<- hrvl.out];exact h150⟩)
               clear h66 hbt
               go_wp2_with fail
               go_ret;exact ⟨kp_ne HK.out dc_,BW6.mono hBw,kf_below BW6 lr_⟩
             · have HK:Hid (keepC W ts rs m ls c t=0):=by show keepC _ _ _ _ _ _ _=0;exact HKC.out.2 (fun h=>h.elim (fun h=>om_) (fun h=>h150 (hrvl.out.trans h.2)))
               have hi5:((rv.length:Int)==150)=false:=by rw [beq_eq_false_iff_ne];omega
               clear hbt
               go_wp2_with fail
               refine h66.mono ?_;rintro e w7 ⟨rfl,hm7,hg7⟩;rw [HDN.out] at hm7
               replace hm7:=mp_tight hm7
               rw [mapD_size] at hm7;have C7:=hI_ (HC6.out.upT hg7 hm7 HFr.out.asc);have R7:=hI_ (HR6'.out.mapT hg7 HC6.out);have B7:Below B w6 w7:=gb_below hg7 (fun j e=>by cases e;exact HC6.out.hT) om_;have BB7:Below B w w7:=(BW6.mono hBw).trans B7;have KK7:Hid (KF w w7):=by obtain ⟨es,ck,hh⟩:=mp_isMap HC6.out.tx;exact (kf_below BW6 lr_).trans (kf_map hg7 hh)
               have neT:some w5.heap.size≠some bT:=fun e=>by have:=Option.some.inj e;omega
               have E7:=hI_ (blk_kept E6.out hg7 om_ neT);have u0:=E7.out 0 _ rfl;have u1:=E7.out 1 _ rfl;have u2:=E7.out 2 _ rfl;have RV7:=RV6.out.kept hg7 (by obtain ⟨es,ck,hh⟩:=mp_isMap HC6.out.tx;exact noRow_map HC6.out.hT hh);have h59:=c41 B H bT bR bP W _ rs rv x a5 c905 w7 ⟨pl,C7.out,R7.out⟩ RV7 om_ om_;rw [hxk,hxl,hxo] at h59;clear h66 hm7 hg7
               go_wp2_with fail
               refine h59.mono ?_;rintro e w8 ⟨rfl,hS8,hB8,hK8⟩;have HK8:=hI_ hK8;clear hK8;have HS8:Hid (Sh B H bT bR bP W ((putAll W (fmL ls c t) (ts,true)).1.map (gT W)) (putR rs (recR W m ls c t)) (rv++[.agg #[.string (keyR m),.slice a5 ls.length c905,.string (sumS (ofL (formR c t.data.toList)) W)]]) w8):=by
                show Sh _ _ _ _ _ _ _ _ _ _;rw [HPU.out,HX.out,putR,if_neg HNX.out];exact hS8
               clear h59 hS8;go_wp2;go_ret;exact ⟨kp_0 HK.out HS8.out,BB7.trans hB8,KK7.out.trans HK8.out⟩
           · have HIX:Hid (x∈rs):=by show x∈rs;simpa using hbt
             have HK:Hid (keepC W ts rs m ls c t=0):=by show keepC _ _ _ _ _ _ _=0;exact HKC.out.2 (fun h=>h.elim (fun h=>om_) (fun h=>h.1 HIX.out))
             clear hbt
             go_wp2_with fail
             refine h66.mono ?_;rintro e w7 ⟨rfl,hm7,hg7⟩;rw [HDN.out] at hm7
             replace hm7:=mp_tight hm7
             rw [mapD_size] at hm7;have C7:=hI_ (HC6.out.upT hg7 hm7 HFr.out.asc);have R7:=hI_ (HR6'.out.mapT hg7 HC6.out);have B7:Below B w6 w7:=gb_below hg7 (fun j e=>by cases e;exact HC6.out.hT) om_;have BB7:Below B w w7:=(BW6.mono hBw).trans B7;have KK7:Hid (KF w w7):=by obtain ⟨es,ck,hh⟩:=mp_isMap HC6.out.tx;exact (kf_below BW6 lr_).trans (kf_map hg7 hh)
             have HS8:Hid (Sh B H bT bR bP W ((putAll W (fmL ls c t) (ts,true)).1.map (gT W)) (putR rs (recR W m ls c t)) rv w7):=by
              show Sh _ _ _ _ _ _ _ _ _ _;rw [HPU.out,HX.out,putR,if_pos HIX.out];exact ⟨pl,C7.out,R7.out⟩
             clear h66 hm7 hg7;go_wp2;go_ret;exact ⟨kp_0 HK.out HS8.out,BB7,KK7.out⟩
       · have HK:Hid (keepC W ts rs m ls c t=3):=by show keepC _ _ _ _ _ _ _=3;unfold keepC;rw [if_neg (fun h=>h HRK.out),if_pos hno]
         go_wp2;go_ret;exact ⟨kp_ne HK.out dc_,BW4.mono hBw,kf_below BW4 lr_⟩
theorem keepF_ok {s:St} {m:M3} {ls:List L4} {c:Int} {t:ByteArray} (h:StOk s):(keepC s.wd s.ts s.rs m ls c t=0->keepF s m ls c t=(⟨s.wd,(putAll s.wd (fmL ls c t) (s.ts,true)).1,putR s.rs (recR s.wd m ls c t)⟩,0))/\(keepC s.wd s.ts s.rs m ls c t≠0->keepF s m ls c t=(st0,keepC s.wd s.ts s.rs m ls c t)):=by
 by_cases h1:RanOk m ls c t
 · by_cases h2:(putAll s.wd (fmL ls c t) (s.ts,true)).2=false
   · simp [keepF,keepC,h,h1,h2]
   · by_cases h3:300<(putAll s.wd (fmL ls c t) (s.ts,true)).1.length\/150<(putR s.rs (recR s.wd m ls c t)).length
     · simp [keepF,keepC,h,h1,h2,h3]
     · simp [keepF,keepC,h,h1,h2,h3]
 · simp [keepF,keepC,h,h1]
theorem keepF_no {s:St} {m:M3} {ls:List L4} {c:Int} {t:ByteArray} (h:¬ StOk s):keepF s m ls c t=(st0,1):=by
 unfold keepF;rw [if_pos h]
def IsKeep (s:St) (m:M3) (ls:List L4) (c:Int) (t:ByteArray) (base:Nat) (w':World) (e:Ending):Prop:=
 ∃ ta tc ra rc,e=.returned (.tuple #[.agg #[.int .i64 (keepF s m ls c t).1.wd,.slice ta (keepF s m ls c t).1.ts.length tc,.slice ra (keepF s m ls c t).1.rs.length rc],.int .i64 (keepF s m ls c t).2])/\StOwn w' base (keepF s m ls c t).1.ts (keepF s m ls c t).1.rs (.slice ta (keepF s m ls c t).1.ts.length tc) (.slice ra (keepF s m ls c t).1.rs.length rc)
theorem stOwn_nil (W:World) (base:Nat):StOwn W base [] [] (.slice none 0 0) (.slice none 0 0):=⟨World.ownsRow_nil _ _ _ _,[],rfl,World.ownsRow_nil _ _ _ _,fun i h=>absurd h (Nat.not_lt_zero _),fun i j h=>absurd h (Nat.not_lt_zero _)⟩
theorem isKeep_st0 {s:St} {m:M3} {ls:List L4} {c:Int} {t:ByteArray} {base:Nat} {w':World} {n:Int} (h:keepF s m ls c t=(st0,n)):IsKeep s m ls c t base w' (.returned (.tuple #[.agg #[.int .i64 0,.slice none 0 0,.slice none 0 0],.int .i64 n])):=by
 unfold IsKeep;rw [h];exact ⟨none,0,none,0,rfl,stOwn_nil _ _⟩
theorem isKeep_ok {s:St} {m:M3} {ls:List L4} {c:Int} {t:ByteArray} {base:Nat} {w':World} {d:Int} {pt:List ByteArray} {pr:List R3} {ta ra:Option Addr} {tc rc:Nat} (h:keepF s m ls c t=(⟨d,pt,pr⟩,0)) (hs:StOwn w' base pt pr (.slice ta pt.length tc) (.slice ra pr.length rc)):IsKeep s m ls c t base w' (.returned (.tuple #[.agg #[.int .i64 d,.slice ta pt.length tc,.slice ra pr.length rc],.int .i64 0])):=by
 unfold IsKeep;rw [h];exact ⟨ta,tc,ra,rc,rfl,hs⟩
theorem StOwn.keep {W W':World} {base:Nat} {ts:List ByteArray} {rs:List R3} {tv rvv:Value} (h:StOwn W base ts rs tv rvv) (hk:∀ q,base<=q->q<W.heap.size->W'.heap[q]?=W.heap[q]?):StOwn W' base ts rs tv rvv:=by
 obtain ⟨h1,vs,h2⟩:=h;refine ⟨own_keep' h1 (fun q hq=>hk q (own_blk h1 hq) (own_lt h1 hq)),vs,h2.len,own_keep' h2.row (fun q hq=>hk q (own_blk h2.row hq) (own_lt h2.row hq)),fun i hi=>?_,h2.apart⟩;obtain ⟨a3,c3,e,h3⟩:=h2.gl i hi;exact ⟨a3,c3,e,own_keep' h3 (fun q hq=>hk q (own_blk h3 hq) (own_lt h3 hq))⟩
theorem step_app_n {P:Program} {ops:Array Oper} {o:Oper} {a:Act} {w:World} {K:Act->World->Prop} {Q:Exit->Act->World->Prop} {E:Prop}
 (hg:o.guard=none) (s x:Operand) (t:TypeId) (hop:o.op=Op.call { callee:=Callee.builtin Builtin.append,args:=#[s,x],argTypes:=#[t,t] })
 (base:Nat) (e:TypeId) (i:TypeInfo) (z:Value) (size bytes:Nat) (h1:P.underlying t=some (.slice e)) (h2:P.info? e=some i) (h3:i.zero=some z) (h4:i.size=size) (h5:i.bytes=bytes) (h6:z.cells.size=size) (h7:0<size)
 (v:Value) (n:Nat) (xs:List Value) (hs:a.eval s=v) (hown:w.ownsRow base e size v n xs)
 (ad:Addr) (m c:Nat) (news:List Value) (hx:a.eval x=.slice (some ad) m c) (hn:news.length=m*size) (hc:∀ j u,news[j]?=some u->w.cell? (ad.add j)=some u) (h1c:∀ u∈news,u.oneCell'=true)
 (b1:n+m<=maxLen) (b2:(n+m)*bytes<=140737488355328) (hb:base<=w.heap.size)
 (hK:∀ v' w',w'.ownsRow base e size v' (n+m) (xs++news)->w.grownBy w' v.ownBlock->(v≠.slice none 0 0->v'≠.slice none 0 0)->K (a.put o.dst v') w'):
 if Region.wanted o (yielded ops a.tmps)=true then Oper.wp P o a w K Q else E:=by
 have hw:Region.wanted o (yielded ops a.tmps)=true:=by simp [Region.wanted,hg]
 rw [if_pos hw];obtain ⟨v',w',hrun,r1,r2,r3,r4⟩:=run_append_own_at (P:=P) w base t o.type e i z size bytes h1 h2 h3 h4 h5 h6 h7 v n xs hown ad m c news hn hc h1c b1 b2 hb;unfold Oper.wp;simp [execOp,hop,resolve,invoke,builtin,hs,hx,hrun,Result.andThen];exact hK v' w' r1 r2 (fun h k=>h (r3.1 k).1)
theorem row_some {W:World} {base e size n:Nat} {v:Value} {xs:List Value} (h:W.ownsRow base e size v n xs) (hn:v≠.slice none 0 0):∃ g c,v=.slice (some ⟨g,0,none⟩) n c:=by
 rcases h.2 with ⟨hv,_⟩ | ⟨g,cap,cur,hv,_⟩
 · exact absurd hv hn
 · exact ⟨g,cap,hv⟩
theorem rec_push {V1 T:World} {N:Nat} {v v6:Value} {rs:List R3} {vs:List Value} {y:R3} {a5:Option Addr} {c905:Nat} (ho:RecOwn V1 N v rs vs) (h5:T.ownsRow N 119 3 (.slice a5 y.gs.length c905) y.gs.length (gC y.gs)) (hrow:T.ownsRow N 96 3 v6 (rs.length+1) (rC rs vs++[.string y.key,.slice a5 y.gs.length c905,.string y.out]))
 (hk:∀ q,OfT V1 q 119->T.heap[q]?=V1.heap[q]?) (hn:∀ q,(Value.slice a5 y.gs.length c905).ownBlock=some q->V1.heap.size<=q):RecOwn T N v6 (rs++[y]) (vs++[.slice a5 y.gs.length c905]):=by
 have hvl:∀ i,i<rs.length->(vs++[Value.slice a5 y.gs.length c905]).getD i undef=vs.getD i undef:=fun i hi=>by simp only [List.getD,List.getElem?_append_left (show i<vs.length by rw [ho.len];exact hi)]
 have hvn:(vs++[Value.slice a5 y.gs.length c905]).getD rs.length undef=(.slice a5 y.gs.length c905):=by simp [List.getD,show rs.length=vs.length by rw [ho.len]]
 have hrl2:∀ i,i<rs.length->(rs++[y]).getD i r3z=rs.getD i r3z:=fun i hi=>by simp only [List.getD,List.getElem?_append_left hi]
 have hrn:(rs++[y]).getD rs.length r3z=y:=by simp [List.getD]
 have hold:∀ i,i<rs.length->∀ q,(vs.getD i undef).ownBlock=some q->q<V1.heap.size:=fun i hi q hq=>by
  obtain ⟨a3,c3,e,h3⟩:=ho.gl i hi;rw [e] at hq;exact own_lt h3 hq
 refine ⟨by simp [ho.len],?_,fun i hi=>?_,fun i j hi hj hij=>?_⟩
 · rw [rC_snoc _ _ _ _ ho.len,List.length_append]
   exact hrow
 · rw [List.length_append,List.length_singleton] at hi
   rcases Nat.lt_or_ge i rs.length with hlt | hge
   · rw [hvl i hlt,hrl2 i hlt]
     obtain ⟨a3,c3,e,h3⟩:=ho.gl i hlt;exact ⟨a3,c3,e,own_keep' h3 (fun q hq=>hk q (own_ofT h3 hq))⟩
   · obtain rfl:i=rs.length:=om_
     rw [hvn,hrn];exact ⟨a5,c905,rfl,h5⟩
 · rw [List.length_append,List.length_singleton] at hi hj
   rcases Nat.lt_or_ge i rs.length with hli | hgi
   · rw [hvl i hli]
     rcases Nat.lt_or_ge j rs.length with hlj | hgj
     · rw [hvl j hlj]
       exact ho.apart i j hli hlj hij
     · obtain rfl:j=rs.length:=om_
       rw [hvn]
       cases hq:(vs.getD i undef).ownBlock with
       | none=>exact .inl rfl
       | some q=>
        refine .inr fun e=>?_;have:=hold i hli q hq;have:=hn q e.symm;omega
   · obtain rfl:i=rs.length:=om_
     rw [hvn];have hlj:j<rs.length:=om_;rw [hvl j hlj]
     cases hq:(Value.slice a5 y.gs.length c905).ownBlock with
     | none=>exact .inl rfl
     | some q=>
      refine .inr fun e=>?_;have:=hold j hlj q e.symm;have:=hn q hq;omega
theorem RecOwn.keep {W W':World} {base:Nat} {v:Value} {rs:List R3} {vs:List Value} (h:RecOwn W base v rs vs) (hk:∀ q t,OfT W q t->t=96\/t=119->base<=q->W'.heap[q]?=W.heap[q]?):RecOwn W' base v rs vs:=
 ⟨h.len,own_keep' h.row (fun q hq=>hk q 96 (own_ofT h.row hq) (.inl rfl) (own_blk h.row hq)),fun i hi=>by
  obtain ⟨a,c,e,h3⟩:=h.gl i hi;exact ⟨a,c,e,own_keep' h3 (fun q hq=>hk q 119 (own_ofT h3 hq) (.inr rfl) (own_blk h3 hq))⟩,h.apart⟩
theorem ofT_lt {W:World} {q:Nat} {t:TypeId} (h:OfT W q t):q<W.heap.size:=by
 obtain ⟨cur,fr,e⟩:=h;exact (Array.getElem?_eq_some_iff.1 e).1
structure LC (V:World) (N A:Nat) (W0:Int) (ts:List ByteArray) (g c:Nat) (P:List R3) (a2:Option Addr) (c2:Nat) (vs:List Value) (W:World):Prop where
 bl:BlkAt W A [.int .i64 W0,.slice (some ⟨g,0,none⟩) ts.length c,.slice a2 P.length c2]
 rc:RecOwn W N (.slice a2 P.length c2) P vs
 tr:W.ownsRow N 9 1 (.slice (some ⟨g,0,none⟩) ts.length c) ts.length (ts.map Value.string)
 op:OpnAt W A
 t1:OfT W A 29
 na:N<=A
 bw:Below N V W
theorem LC.below {V:World} {N A:Nat} {W0:Int} {ts:List ByteArray} {g c:Nat} {P:List R3} {a2:Option Addr} {c2:Nat} {vs:List Value} {W W':World} (h:LC V N A W0 ts g c P a2 c2 vs W) (hb:Below W.heap.size W W'):LC V N A W0 ts g c P a2 c2 vs W':=
 ⟨h.bl.below hb (ofT_lt h.t1),h.rc.keep (fun q t hT _ _=>hb.block q (ofT_lt hT)),own_below h.tr hb,h.op.below hb (ofT_lt h.t1),h.t1.below hb (ofT_lt h.t1),h.na,h.bw.trans (hb.mono (by have:=ofT_lt h.t1;have:=h.na;omega))⟩
end Go.Proofs.YtlckdgjfniglfaaGreatDoor
